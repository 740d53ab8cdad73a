"""Point 2.5: proofs, and what is lacking where there is none."""

import unittest

from shownviews.books import bar
from shownviews.errors import Barred, NoBook, NoName, NoRow, NoSchema, NoTables
from shownviews.proofs import is_proof, lacks, proof
from tests.helpers import (ANY, FAR, NEAR, S, T, chances, odd_things, parts_put_otherwise, random_tables, rich_book,
                           rule, sort_of, unchanged, v)
from tests.slowly import rows_of_all, slow_is_proof, slow_orders, slow_stages, titles_of

X, Y, Z = v(0), v(1), v(2)
BOOK = {"one": NEAR, "two": FAR}
STEPS = (("near", ("a", "b"), "one", ((0, "a"), (1, "b"))), ("near", ("a", "c"), "two", ((0, "a"), (1, "b"), (2, "c"))))
NAMES = {"link": 2, "stock": 2, "name": 2, "p": 1, "q": 2, "r": 1, "s": 2, "none": 1}


def cases(many):
    """Books with tables and names without a bar."""
    for chance in chances(many):
        book = rich_book(chance, NAMES, list("pqrs"))
        if chance.random() < 0.5:
            name = chance.choice("qs")
            book["qz"] = rule(name, [X, Z], ("is", "link", (Y, Z)), ("is", name, (X, Y)), ("unlike", X, Z))
        tables = random_tables(chance)
        rows = rows_of_all(S, book, tables)
        for name in NAMES:
            if bar(S, book, name) is None:
                yield chance, book, tables, rows, name


class Proofs(unittest.TestCase):
    def test_small_ones(self):
        self.assertEqual(proof(S, BOOK, T, "near", ("a", "c")), STEPS)
        self.assertEqual(proof(S, BOOK, T, "near", ("a", "b")), STEPS[:1])
        for row in (("c", "a"), ("a",), ("a", "b", "c"), (1, 2), ("a", "a")):
            self.assertIsNone(proof(S, BOOK, T, "near", row))

    def test_names_without_rules(self):
        for name in ("link", "none", "rule", "one"):
            for row in (("a", "b"), (1,)):
                self.assertIsNone(proof(S, BOOK, T, name, row))
                self.assertIs(is_proof(S, BOOK, T, name, row, ()), False)
                self.assertIs(is_proof(S, BOOK, T, name, row, STEPS), False)

    def test_only_what_is_needed(self):
        book = {**BOOK, "c": rule("x", [X], ("is", "near", ("b", X))), "d": rule("y", [X], ("is", "x", (X,)))}
        told = proof(S, book, T, "y", ("c",))
        self.assertEqual([step[:2] for step in told], [("near", ("b", "c")), ("x", ("c",)), ("y", ("c",))])

    def test_long_chains(self):
        names = [f"w{at:03}" for at in range(300)]
        tables = {**T, "link": tuple(zip(names, names[1:]))}
        told = proof(S, BOOK, tables, "near", (names[0], names[299]))
        self.assertEqual(len(told), 299)
        self.assertIs(is_proof(S, BOOK, tables, "near", (names[0], names[299]), told), True)

    def test_by_chance(self):
        seen, longest = 0, 0
        for _, book, tables, rows, name in cases(110):
            derived = {one[0][0] for one in book.values()}
            for row in rows.get(name, ())[:6]:
                told = proof(S, book, tables, name, row)
                if name not in derived:
                    self.assertIsNone(told)
                    continue
                self.assertTrue(slow_is_proof(S, book, rows, name, row, told), told)
                self.assertIs(is_proof(S, book, tables, name, row, told), True)
                seen += 1
                longest = max(longest, len(told))
            for row in (("a",), ("zz", "a"), (1, 2, 3)):
                if row not in rows.get(name, ()):
                    self.assertIsNone(proof(S, book, tables, name, row))
        self.assertGreater(seen, 100)
        self.assertGreater(longest, 4)

    def test_rings_not_and_counts(self):
        book = {"a": rule("x", [X], ("is", "y", (X,))), "b": rule("y", [X], ("is", "x", (X,))),
                "c": rule("x", [X], ("is", "link", (X, ANY)), ("not", "z", (X, ANY)), ("many", 1, "link", (X, ANY)),
                          ("same", 1, Y)),
                "d": rule("z", [X, Y], ("is", "y", (X,)), ("is", "w", (Y,))), "e": rule("w", [1], ("less", 1, 2))}
        self.assertEqual(bar(S, book, "y"), ("ring", ("x", "z", "y")))
        book["d"] = rule("z", [X, Y], ("is", "link", (Y, X)), ("is", "w", (Z,)))
        self.assertEqual(proof(S, book, T, "y", ("a",)), (("x", ("a",), "c", ((0, "a"), (1, 1))),
                                                          ("y", ("a",), "b", ((0, "a"),))))
        self.assertIsNone(proof(S, book, T, "y", ("b",)))


class IsProof(unittest.TestCase):
    def proves(self, *steps, row=("a", "c"), book=BOOK):
        return is_proof(S, book, T, "near", row, steps)

    def test_others_that_are_right(self):
        more = (("near", ("b", "c"), "one", ((0, "b"), (1, "c"))),)
        self.assertIs(self.proves(*STEPS), True)
        self.assertIs(self.proves(*more, *STEPS), True)
        self.assertIs(self.proves(STEPS[0], *more, STEPS[1]), True)
        self.assertIs(self.proves(*STEPS[:1], row=("a", "b")), True)

    def test_left_out_turned_twice(self):
        more = (("near", ("b", "c"), "one", ((0, "b"), (1, "c"))),)
        for steps in ((), STEPS[:1], STEPS[1:], STEPS[::-1], STEPS + STEPS, STEPS[:1] + STEPS, STEPS + STEPS[1:],
                      STEPS + more, STEPS[1:] + STEPS[:1] + STEPS[1:], STEPS + STEPS[:1]):
            self.assertIs(self.proves(*steps), False)

    def test_a_row_by_itself(self):
        book = {**BOOK, "c": rule("near", [X, Y], ("is", "near", (X, Y)))}
        one = ("near", ("a", "b"), "c", ((0, "a"), (1, "b")))
        self.assertIs(self.proves(one, row=("a", "b"), book=book), False)
        self.assertIs(self.proves(one, row=("a", "b"), book={"c": book["c"]}), False)

    def test_names_on_which_it_does_not_hang(self):
        book = {**BOOK, "c": rule("x", [X], ("is", "near", (X, ANY)))}
        step = ("x", ("a",), "c", ((0, "a"), ))
        self.assertIs(self.proves(STEPS[0], step, STEPS[1], book=book), False)
        self.assertIs(is_proof(S, book, T, "x", ("a",), (STEPS[0], step)), True)
        self.assertIs(is_proof(S, book, T, "x", ("a",), (*STEPS, step)), True)

    def test_other_fillings_rules_rows_and_names(self):
        book = {**BOOK, "alike": NEAR, "other": rule("x", [X, Y], ("is", "link", (X, Y)))}
        name, row, title, pairs = STEPS[0]
        for step in ((name, ("a", "c"), title, pairs), (name, row, "two", pairs), (name, row, "other", pairs),
                     ("x", row, title, pairs), ("x", row, "other", pairs), (name, row, "three", pairs),
                     (name, row, title, ((0, "a"), (1, "c"))), (name, row, title, ((0, "a"),)),
                     (name, row, title, (*pairs, (2, "c"))), (name, row, title, ((0, "a", 1), pairs[1])),
                     (name, row, title, pairs[::-1]),
                     (name, row, title, list(pairs)), (name, list(row), title, pairs), list(STEPS[0]), STEPS[0][:3],
                     (*STEPS[0], 1), (name, row, title, ((False, "a"), (True, "b"))), None, ()):
            self.assertIs(self.proves(step, STEPS[1], book=book), False, step)
        self.assertIs(self.proves((name, row, "alike", pairs), STEPS[1], book=book), True)

    def test_flags_in_the_place_of_numbers(self):
        tables = {**T, "stock": (("a", 0), ("b", 1))}
        book = {"one": rule("x", [X], ("is", "stock", (ANY, X)))}
        told = proof(S, book, tables, "x", (1,))
        self.assertIs(is_proof(S, book, tables, "x", (1,), told), True)
        seen = 0
        for thing in parts_put_otherwise(told, [True, False, None, 0, "a", [], ()]):
            if repr(thing) != repr(told):
                self.assertIs(is_proof(S, book, tables, "x", (1,), thing), False, thing)
                seen += 1
        self.assertGreater(seen, 60)

    def test_by_chance(self):
        seen = {True: 0, False: 0}
        for chance, book, tables, rows, name in cases(70):
            derived = {one[0][0] for one in book.values()}
            facts = [(other, row) for other in derived for row in rows.get(other, ())]
            for row in rows.get(name, ())[:3] if name in derived else ():
                steps = list(proof(S, book, tables, name, row))
                for _ in range(4):
                    thing = tuple(self.put_otherwise(chance, book, tables, steps, facts))
                    wanted = slow_is_proof(S, book, rows, name, row, thing)
                    self.assertIs(is_proof(S, book, tables, name, row, thing), wanted, thing)
                    seen[wanted] += 1
        self.assertGreater(min(seen.values()), 60, seen)

    def put_otherwise(self, chance, book, tables, steps, facts):
        told = list(steps)
        kind = chance.randrange(4)
        at = chance.randrange(len(told))
        if kind == 0:
            del told[at]
        if kind == 1:
            name, row, title, pairs = told[at]
            told[at] = (name, row, chance.choice(titles_of(book, name)), pairs)
        if kind == 2:
            chance.shuffle(told)
        if kind == 3:
            # All steps of the proof of another row ahead.
            other, found = chance.choice(facts)
            if bar(S, book, other) is None:
                more = proof(S, book, tables, other, found)
                told = [step for step in more if step[:2] not in [one[:2] for one in told]] + told
        return told

    def test_things_of_all_kinds(self):
        for thing in odd_things():
            self.assertIs(is_proof(S, BOOK, T, "near", ("a", "c"), thing), False)
            self.assertIs(self.proves(thing, *STEPS), False)
            self.assertIs(self.proves(*STEPS, thing), False)
            for at in range(4):
                step = (*STEPS[0][:at], thing, *STEPS[0][at + 1:])
                self.assertIs(self.proves(step, STEPS[1]), False)


class Lacks(unittest.TestCase):
    def test_small_ones(self):
        self.assertEqual(lacks(S, BOOK, T, "near", ("c", "a")), (("one", 0), ("two", 0)))
        self.assertEqual(lacks(S, BOOK, T, "near", ("a", "d")), (("one", 0), ("two", 1)))
        self.assertIsNone(lacks(S, BOOK, T, "near", ("a", "c")))
        self.assertEqual(lacks(S, BOOK, T, "near", ("a",)), (("one", -1), ("two", -1)))

    def test_heads(self):
        book = {"a": rule("x", [X, X], ("is", "link", (X, ANY))), "b": rule("x", ["c", Y], ("is", "link", (Y, ANY))),
                "c": rule("x", [1, "d"], ("less", 2, 1))}
        self.assertEqual(lacks(S, book, T, "x", ("c", "d")), (("a", -1), ("b", 0), ("c", -1)))
        self.assertEqual(lacks(S, book, T, "x", ("d", "d")), (("a", 0), ("b", -1), ("c", -1)))
        self.assertEqual(lacks(S, book, T, "x", (1, "d")), (("a", -1), ("b", -1), ("c", 0)))
        self.assertIsNone(lacks(S, book, T, "x", ("a", "a")))
        self.assertIsNone(lacks(S, book, T, "x", ("c", "b")))

    def test_the_place_is_told_in_the_plain_order(self):
        # The order is (1, 0, 2); told is the number of the condition, not its place there.
        book = {"a": rule("x", [X, Y], ("less", Z, Y), ("is", "link", (X, Z)), ("is", "link", (ANY, Y)))}
        for row, wanted in ((("c", "d"), 1), (("b", "a"), 0), (("a", "d"), 2)):
            self.assertEqual(lacks(S, book, T, "x", row), (("a", wanted),))
        self.assertIsNone(lacks(S, book, T, "x", ("a", "c")))
        # A "not" stands as early as the row lets it.
        book = {"a": rule("x", [X, Y], ("not", "name", (X, Y)), ("is", "link", (X, Y)))}
        self.assertEqual(lacks(S, book, {**T, "name": (("a", "b"),)}, "x", ("a", "b")), (("a", 0),))
        self.assertIsNone(lacks(S, book, T, "x", ("a", "b")))

    def test_names_without_rules(self):
        self.assertIsNone(lacks(S, BOOK, T, "link", ("a", "b")))
        for name, row in (("link", ("b", "a")), ("link", ("a",)), ("none", (1,)), ("rule", ("a", "b"))):
            self.assertEqual(lacks(S, BOOK, T, name, row), ())

    def test_by_chance(self):
        kinds = {}
        for chance, book, tables, rows, name in cases(110):
            for _ in range(4):
                many = NAMES[name] if chance.random() < 0.9 else 3
                row = tuple(chance.choice(["a", "b", "c", 1, 2]) for _ in range(many))
                told = lacks(S, book, tables, name, row)
                if row in rows.get(name, ()):
                    self.assertIsNone(told)
                    continue
                wanted = tuple((title, self.slow_stop(book[title], row, rows)) for title in titles_of(book, name))
                self.assertEqual(told, wanted)
                for _, at in told:
                    kinds[at] = kinds.get(at, 0) + 1
        self.assertTrue(all(kinds.get(at, 0) > 9 for at in (-1, 0, 1, 2)), kinds)

    def slow_stop(self, one, row, rows):
        if len(row) != len(one[0][1]):
            return -1
        order = slow_orders(one, tuple(range(len(row))))[0]
        _, told = slow_stages(one, order, (one[0][0], row), rows)
        return -1 if not told[0] else [at for at, fillings in zip(order, told[1:]) if not fillings][0]


class Errors(unittest.TestCase):
    calls = [proof, lacks, lambda *given: is_proof(*given, None)]

    def test_in_this_order(self):
        bad = {"bad": rule("x", [X], ("less", 1, 2))}
        for call in self.calls:
            self.assertRaises(NoSchema, call, None, None, None, None, None)
            self.assertRaises(NoBook, call, S, None, None, None, None)
            self.assertRaises(NoName, call, S, bad, None, None, None)
            self.assertRaises(NoTables, call, S, bad, None, "x", None)
            with self.assertRaises(Barred) as caught:
                call(S, bad, T, "x", None)
            self.assertEqual(caught.exception.bar, ("unsafe", "bad"))
            self.assertRaises(NoRow, call, S, bad, T, "y", None)

    def test_things_of_all_kinds(self):
        for thing in odd_things():
            for call in self.calls:
                self.assertRaises(NoSchema, call, thing, BOOK, T, "near", ("a", "b"))
                if thing != {}:
                    self.assertRaises(NoBook, call, S, thing, T, "near", ("a", "b"))
                self.assertRaises(NoTables, call, S, BOOK, thing, "near", ("a", "b"))
                if thing not in ("a", "link", "rule"):
                    self.assertRaises(NoName, call, S, BOOK, T, thing, ("a", "b"))

    def test_no_row(self):
        wrong = [(), ("a",) * 6, ["a"], "a", (True,), (None,), (ANY,), ("\n",), ("a" * 21,), (("a",),), ("a", False)]
        rows = [thing for thing in odd_things() if type(thing) is tuple and 1 <= len(thing) <= 5
                and all(sort_of(worth) or worth == 10 ** 39 for worth in thing)]
        for thing in [*wrong, *[thing for thing in odd_things() if thing not in rows]]:
            for call in self.calls:
                for name in ("near", "link", "none"):
                    self.assertRaises(NoRow, call, S, BOOK, T, name, thing)
        for thing in (*rows, (10 ** 39,), (-1,), ("",), ("a",) * 5):
            self.assertIsNone(proof(S, BOOK, T, "near", thing))

    def test_nothing_is_changed_and_equal_calls_are_equal(self):
        for call, given in ((proof, ()), (lacks, ()), (is_proof, (STEPS,))):
            first = unchanged(self, call, S, BOOK, T, "near", ("a", "c"), *given)
            book, tables = dict(reversed(BOOK.items())), dict(reversed(T.items()))
            self.assertEqual(call(S, book, tables, "near", ("a", "c"), *given), first)
