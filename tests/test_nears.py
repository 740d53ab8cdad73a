"""Point 4.2: what a change touches, and how much stands round it."""

import unittest

from shownviews.errors import NoBook, NoFacts, NoSchema, NoTables
from shownviews.nears import near
from tests.helpers import ANY, FAR, NEAR, S, T, chances, odd_things, random_tables, rich_book, rule, unchanged, v
from tests.slowly import slow_near
from tests.test_views import NAMES, random_change

X, Y, Z = v(0), v(1), v(2)
BOOK = {"one": NEAR, "two": FAR}


class Near(unittest.TestCase):
    def near(self, book, gone, come, tables=T):
        told = near(S, book, tables, gone, come)
        self.assertEqual(told, slow_near(S, book, tables, gone, come))
        return told

    def test_no_facts_and_no_rules(self):
        self.assertEqual(self.near(BOOK, [], ()), (0, 0, 0))
        self.assertEqual(self.near({}, [("link", ("a", "b"))], [("link", ("c", "d")), ("name", ("a", "b"))]), (1, 2, 0))

    def test_one_rule(self):
        # The fact fits the one condition, behind which nothing stands; round the head stands one pattern with its row.
        self.assertEqual(self.near({"one": NEAR}, [("link", ("a", "b"))], []), (2, 0, 2))
        self.assertEqual(self.near({"one": NEAR}, [], [("link", ("c", "d"))]), (0, 2, 2))

    def test_a_ring(self):
        self.assertEqual(self.near(BOOK, [("link", ("b", "c"))], [])[:2], (3, 0))
        self.assertEqual(self.near(BOOK, [("link", ("a", "b"))], [("link", ("c", "a"))])[:2], (3, 3))

    def test_not_and_counts(self):
        book = {"a": rule("x", [X], ("is", "name", (X, ANY)), ("not", "link", (X, ANY))),
                "b": rule("y", [X, Y], ("is", "name", (X, ANY)), ("many", 1, "link", (X, ANY)), ("unlike", X, "q"))}
        tables = {**T, "name": (("a", "n"), ("c", "n"), ("d", "n"))}
        # What is put in takes out the row of an instance with "not", and changes a count, even one that stays the same.
        self.assertEqual(self.near(book, [], [("link", ("c", "z"))], tables)[:2], (2, 2))
        self.assertEqual(self.near(book, [("link", ("a", "b"))], [("link", ("a", "z"))], tables)[:2], (2, 2))
        self.assertEqual(self.near(book, [("link", ("a", "b"))], [], tables)[:2], (2, 2))
        self.assertEqual(self.near(book, [("link", ("b", "c"))], [], tables), (1, 0, 2))

    def test_several_rules_and_facts_that_both_have(self):
        book = {"a": rule("x", [X], ("is", "link", (X, ANY))), "b": rule("x", [X], ("is", "name", (X, ANY))),
                "c": rule("x", [X], ("is", "x", (X,)), ("is", "link", (X, Y)), ("is", "link", (X, Y)))}
        tables = {**T, "name": (("a", "n"),)}
        told = self.near(book, [("link", ("a", "b"))], [("link", ("a", "c"))], tables)
        self.assertEqual(told[:2], (2, 2))
        self.assertEqual(self.near(book, [("name", ("a", "n"))], [("name", ("a", "m"))], tables)[:2], (2, 2))

    def test_names_with_a_bar_do_not_count(self):
        bad = {"bad": rule("x", [X], ("is", "link", (X, Y)), ("less", X, Z)), "c": rule("y", [X], ("is", "x", (X,)))}
        self.assertEqual(self.near({**BOOK, **bad}, [("link", ("a", "b"))], []),
                         self.near(BOOK, [("link", ("a", "b"))], []))

    def test_other_numbers_of_places_and_constants(self):
        book = {"a": rule("x", [X], ("is", "none", (X, X)), ("is", "link", ("b", ANY))),
                "b": rule("y", [X], ("is", "link", (X, X)), ("is", "name", (ANY, X)))}
        self.assertEqual(self.near(book, [("link", ("a", "b"))], []), (1, 0, 0))
        self.assertEqual(self.near(book, [("link", ("b", "c"))], [("link", ("q", "q"))]), (1, 1, 2))

    def test_by_chance(self):
        seen = [0, 0, 0]
        for chance in chances(220):
            book, tables = rich_book(chance, NAMES, list("pqrs")), random_tables(chance)
            if chance.random() < 0.3:
                book["qz"] = rule("s", [X, Z], ("is", "link", (Y, Z)), ("is", "s", (X, Y)))
            for _ in range(2):
                told = self.near(book, *random_change(chance, tables), tables)
                seen = [one + more for one, more in zip(seen, told)]
        self.assertGreater(min(seen), 1000, seen)


class Errors(unittest.TestCase):
    def test_in_this_order(self):
        self.assertRaises(NoSchema, near, None, None, None, None, None)
        self.assertRaises(NoBook, near, S, None, None, None, None)
        self.assertRaises(NoTables, near, S, BOOK, None, None, None)
        self.assertRaises(NoFacts, near, S, BOOK, T, None, [])
        self.assertRaises(NoFacts, near, S, BOOK, T, [], None)

    def test_things_of_all_kinds(self):
        for thing in odd_things():
            self.assertRaises(NoSchema, near, thing, BOOK, T, [], [])
            if thing != {}:
                self.assertRaises(NoBook, near, S, thing, T, [], [])
            self.assertRaises(NoTables, near, S, BOOK, thing, [], [])
            if thing not in ((), []):
                self.assertRaises(NoFacts, near, S, BOOK, T, thing, [])
                self.assertRaises(NoFacts, near, S, BOOK, T, [], thing)
                self.assertRaises(NoFacts, near, S, BOOK, T, [], [thing])
                self.assertRaises(NoFacts, near, S, BOOK, T, [("link", thing)], [])

    def test_no_facts(self):
        there, not_there = ("link", ("a", "b")), ("link", ("z", "z"))
        for gone, come in (([not_there], []), ([], [there]), ([there, there], []), ([], [not_there, not_there]),
                           ([there], [there]), ([not_there], [not_there]), ([("near", ("a", "b"))], []),
                           ([], [("link", ("z", True))]), ([list(there)], []), ([("link", ["a", "b"])], [])):
            self.assertRaises(NoFacts, near, S, BOOK, T, gone, come)

    def test_nothing_is_changed(self):
        unchanged(self, near, S, dict(BOOK), dict(T), [("link", ("a", "b"))], [("link", ("z", "z"))])
