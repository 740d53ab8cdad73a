"""Point 3.1: orders, the plain one, plans."""

import itertools
import unittest

from shownviews.errors import NoBook, NoLot, NoRule, NoSchema, Unsafe
from shownviews.plans import is_order, is_plan, plain_order
from shownviews.rules import is_rule
from tests.helpers import (ANY, FAR, NEAR, S, chances, odd_things, parts_put_otherwise, random_book, rule, slow_is_safe,
                           unchanged, v)
from tests.slowly import slow_orders

X, Y, Z = v(0), v(1), v(2)
ENDS = rule("end", [X, "a", Y], ("not", "link", (X, ANY)), ("is", "name", (X, Y)), ("less", X, Y), ("is", "x", (Z,)),
            ("many", 3, "link", (Z, ANY)), ("same", v(3), 1))
UNSAFE = rule("x", [X], ("less", X, 1), ("is", "link", (ANY, ANY)))


def is_lot(thing, many):
    """Whether one of the things of all kinds is an ascending tuple of numbers below many."""
    if type(thing) is not tuple or not all(type(at) is int for at in thing):
        return False
    return list(thing) == [at for at in range(many) if at in thing]


class Orders(unittest.TestCase):
    def test_all_lots_of_a_rule(self):
        for lot in ((), (0,), (1,), (2,), (0, 1), (0, 2), (1, 2), (0, 1, 2)):
            wanted = slow_orders(ENDS, lot)
            for order in itertools.permutations(range(6)):
                self.assertIs(is_order(ENDS, lot, order), order in wanted)
            self.assertEqual(plain_order(ENDS, lot), wanted[0])

    def test_what_is_known_early_and_late(self):
        self.assertEqual(plain_order(ENDS, ()), (1, 0, 2, 3, 4, 5))
        self.assertEqual(plain_order(ENDS, (0,)), (0, 1, 2, 3, 4, 5))
        late = rule("x", [X], ("same", v(3), 1), ("sum", 3, "stock", (v(2), ANY), 1), ("many", 2, "y", (v(1),)),
                    ("least", 1, "y", (ANY,), 0), ("is", "y", (X,)))
        self.assertEqual(plain_order(late, (0,)), (3, 2, 1, 0, 4))
        self.assertIs(is_order(late, (), (4, 3, 2, 1, 0)), True)
        self.assertIs(is_order(late, (), (4, 2, 3, 1, 0)), False)

    def test_the_n_of_a_count_need_not_be_known_there(self):
        one = rule("x", [X, Y], ("many", 0, "link", (ANY, ANY)), ("is", "y", (Y,)))
        for lot in ((), (0,), (1,), (0, 1)):
            self.assertIs(is_order(one, lot, (0, 1)), True)
            self.assertIs(is_order(one, lot, (1, 0)), True)

    def test_rules_by_chance(self):
        names = {"link": 2, "stock": 2, "p": 1, "q": 2, "r": 1, "none": 1}
        seen = 0
        for chance in chances(120):
            for one in random_book(chance, names, ["p", "q", "r"]).values():
                lot = tuple(at for at in range(len(one[0][1])) if chance.random() < 0.5)
                wanted = slow_orders(one, lot)
                for order in itertools.permutations(range(len(one[1]))):
                    self.assertIs(is_order(one, lot, order), order in wanted)
                if slow_is_safe(one):
                    self.assertEqual(plain_order(one, lot), wanted[0])
                    seen += len(wanted) > 1
                else:
                    self.assertRaises(Unsafe, plain_order, one, lot)
        self.assertGreater(seen, 50)

    def test_what_is_no_order(self):
        for thing in [*odd_things(), (0,), (0, 1, 2), (0, 0), (1, 1), (1, 2), (-1, 0), (0, True), (False, 1), [0, 1],
                      "01", ((0,), (1,)), ("0", "1"), (0, 1, 1), (10 ** 39, 0), {0: 1, 1: 0}, (None, 0), range(2)]:
            self.assertIs(is_order(FAR, (), thing), False)
        self.assertIs(is_order(FAR, (), (0, 1)), True)
        self.assertIs(is_order(FAR, (), (1, 0)), True)

    def test_an_order_of_a_rule_that_is_not_safe(self):
        self.assertIs(is_order(UNSAFE, (0,), (0, 1)), True)
        self.assertIs(is_order(UNSAFE, (), (1, 0)), False)
        for lot in ((), (0,)):
            self.assertRaises(Unsafe, plain_order, UNSAFE, lot)

    def test_rules_of_any_schema(self):
        for one in (rule("link", [X], ("is", "link", (X,)), ("is", "link", (X, Y))), rule("stock", [1], ("less", 1, 2))):
            self.assertIs(is_order(one, (0,), tuple(range(len(one[1])))), True)
            self.assertEqual(plain_order(one, ()), tuple(range(len(one[1]))))

    def test_no_rule(self):
        others = [None, True, 20, "rule", "", [], (), v(20), "x" * 21, ANY, ("is",), NEAR[0]]
        wrong = 0
        for thing in [*odd_things(), list(FAR), (FAR[0], []), *parts_put_otherwise(FAR, others)]:
            if is_rule((("zzzzzzzz", "bag", ("word",)),), thing):
                self.assertRaises(NoLot, is_order, thing, None, None)
                self.assertRaises(NoLot, plain_order, thing, None)
            else:
                wrong += 1
                self.assertRaises(NoRule, is_order, thing, None, None)
                self.assertRaises(NoRule, plain_order, thing, None)
        self.assertGreater(wrong, len(odd_things()) + 100)

    def test_no_lot(self):
        for thing in [*odd_things(), (0, 0), (1, 0), (2,), (-1,), (True,), (0, True), [0], [], {}, "", (None,), (0, 1, 2),
                      ("0",), ((0,),), 0]:
            if not is_lot(thing, 2):
                self.assertRaises(NoLot, is_order, NEAR, thing, None)
                self.assertRaises(NoLot, plain_order, NEAR, thing)
        self.assertRaises(NoLot, plain_order, UNSAFE, (1,))

    def test_eight_conditions(self):
        one = rule("x", [v(0)], *[("is", "y", (v(n),)) for n in range(8)])
        self.assertEqual(plain_order(one, ()), tuple(range(8)))
        self.assertIs(is_order(one, (), (7, 6, 5, 4, 3, 2, 1, 0)), True)


class Plans(unittest.TestCase):
    book = {"one": NEAR, "two": FAR, "bad": UNSAFE, "end": ENDS}

    def good(self, *parts):
        self.assertIs(is_plan(S, self.book, parts), True, parts)

    def bad(self, *parts):
        self.assertIs(is_plan(S, self.book, parts), False, parts)

    def test_plans(self):
        self.good()
        self.good(("one", (), (0,)))
        self.good(("two", (), (1, 0)), ("two", (0,), (0, 1)), ("two", (0, 1), (0, 1)), ("two", (1,), (1, 0)))
        self.good(("bad", (0,), (0, 1)), ("end", (0,), (0, 1, 2, 3, 4, 5)), ("one", (0, 1), (0,)))

    def test_not_ascending_or_twice(self):
        one, two = ("one", (), (0,)), ("two", (0,), (0, 1))
        self.bad(two, one)
        self.bad(one, one)
        self.bad(("two", (), (0, 1)), ("two", (), (1, 0)))
        self.bad(("two", (1,), (0, 1)), ("two", (0,), (1, 0)))
        self.bad(("two", (1,), (0, 1)), ("two", (0, 1), (1, 0)))

    def test_names_lots_and_orders_that_are_none(self):
        for title in ("near", "", "ONE", None, 1, b"one", ["one"], ("one",), "three"):
            self.bad((title, (), (0,)))
        for lot in ((2,), (1, 0), (0, 0), [0], None, 0, (True,), (False,), ("0",), (-1,)):
            self.bad(("one", lot, (0,)))
        for order in ((), (1,), (0, 1), (0, 0), [0], None, 0, (True,), (False,), ("0",)):
            self.bad(("one", (), order))
        self.bad(("end", (), (0, 1, 2, 3, 4, 5)))
        self.bad(("bad", (), (0, 1)))

    def test_forms(self):
        part = ("one", (), (0,))
        for thing in (part, [part], None, {"one": part}, (list(part),), (part[:2],), ((*part, 0),), (part, None), "one"):
            self.assertIs(is_plan(S, self.book, thing), False)
        for thing in odd_things():
            self.assertIs(is_plan(S, self.book, thing), thing == () and isinstance(thing, tuple))
            self.bad(thing)
            self.assertIs(is_plan(S, self.book, (("one", thing, (0,)),)), is_lot(thing, 2))
            self.assertIs(is_plan(S, self.book, (("one", (), thing),)), is_lot(thing, 1) and len(thing) == 1)

    def test_errors(self):
        self.assertRaises(NoSchema, is_plan, None, None, None)
        self.assertRaises(NoBook, is_plan, S, None, None)
        for thing in odd_things():
            self.assertRaises(NoSchema, is_plan, thing, self.book, ())
            if thing != {}:
                self.assertRaises(NoBook, is_plan, S, thing, ())

    def test_nothing_is_changed(self):
        unchanged(self, is_plan, S, self.book, (("one", (), (0,)),))
        unchanged(self, plain_order, ENDS, (0,))
        unchanged(self, is_order, ENDS, (0,), [1])
