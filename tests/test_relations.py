"""The rows on which views, lots and proofs are built: what fits, how old it is, and how often it was looked at."""

import unittest

from shownviews.relations import Relations, relations_of
from tests.helpers import T, chances
from tests.slowly import fits


class Rows(unittest.TestCase):
    def test_each_look_counts(self):
        rows = Relations()
        looks = [rows.sought]
        for call in (lambda: rows.put("x", (1, 2)), lambda: rows.put("x", (1, 3)), lambda: rows.put("x", (1, 2)),
                     lambda: rows.fitting("x", (1, None)), lambda: rows.fitting("x", (None, 3)),
                     lambda: rows.fitting("x", (None,)), lambda: rows.fitting("y", (1,)), lambda: rows.has("x", (1, 2)),
                     lambda: rows.has("x", (2, 1)), lambda: rows.take("x", (1, 2)), lambda: rows.rows_of("x"),
                     lambda: rows.age("x", (1, 3)), lambda: rows.prepare("x", 2, (0,))):
            call()
            looks.append(rows.sought - sum(looks))
        self.assertEqual(looks, [0, 1, 1, 0, 3, 2, 1, 1, 2, 1, 1, 0, 0, 0])

    def test_ages(self):
        rows = relations_of({"b": ((1,), (2,)), "a": ((5, 5),)})
        self.assertEqual(sorted([("a", (5, 5)), ("b", (1,)), ("b", (2,))], key=lambda fact: rows.age(*fact)),
                         [("a", (5, 5)), ("b", (1,)), ("b", (2,))])
        rows.take("b", (1,))
        rows.put("b", (1,))
        self.assertLess(rows.age("b", (2,)), rows.age("b", (1,)))
        age = rows.age("b", (2,))
        rows.put("b", (2,))
        self.assertEqual(rows.age("b", (2,)), age)
        self.assertEqual(rows.fitting("b", (None,)), [(2,), (1,)])

    def test_lives_by_chance(self):
        for chance in chances(30):
            rows, there = relations_of(T), [(name, row) for name in T for row in T[name]]
            for _ in range(80):
                name = chance.choice(["link", "x"])
                row = tuple(chance.choice("ab") for _ in range(chance.randrange(1, 4)))
                if (name, row) in there and chance.random() < 0.7:
                    rows.take(name, row)
                    there.remove((name, row))
                elif (name, row) not in there:
                    rows.put(name, row)
                    there.append((name, row))
                terms = tuple(chance.choice(["a", "b", None]) for _ in row)
                self.assertEqual(rows.fitting(name, terms), [one for other, one in there if other == name and fits(one, terms)])
                self.assertEqual(rows.rows_of(name), [one for other, one in there if other == name])
                self.assertIs(rows.has(name, row), (name, row) in there)
