"""Point 2.1: rules, and the order of rows."""

import itertools
import unittest

from shownviews.errors import NoRows, NoSchema
from shownviews.rules import is_rule, ordered
from tests.helpers import ANY, FAR, NEAR, S, chances, odd_things, parts_put_otherwise, slow_rows, sort_of, unchanged, v

HEAD = ("near", (v(0),))
CONDITIONS = [("is", "link", (v(0), "b")), ("is", "near", (v(0), ANY)), ("not", "link", (ANY, v(1))),
              ("not", "x", (1, "a", ANY, v(19), -5)), ("less", v(0), 3), ("same", "a", v(1)), ("unlike", "a", 1),
              ("many", 3, "link", (ANY, ANY)), ("many", 3, "x", (v(0),)), ("sum", 0, "stock", (v(0), ANY), 1),
              ("least", 19, "x", (ANY,), 0), ("greatest", 1, "link", (ANY, ANY), 0)]


class Rules(unittest.TestCase):
    def good(self, *body):
        for one in body:
            self.assertIs(is_rule(S, (HEAD, (one,))), True, one)

    def bad(self, *body):
        for one in body:
            self.assertIs(is_rule(S, (HEAD, (one,))), False, one)

    def test_the_examples(self):
        self.assertIs(is_rule(S, NEAR), True)
        self.assertIs(is_rule(S, FAR), True)

    def test_each_kind_of_condition(self):
        self.good(*CONDITIONS)
        for one in CONDITIONS:
            self.bad(one[:-1], (*one, 0), (*one, ANY), list(one), ("", *one[1:]), (None, *one[1:]), (one,), ())

    def test_variables(self):
        for n in (0, 1, 19):
            self.good(("is", "x", (v(n),)), ("less", v(n), v(n)), ("many", n, "x", (1,)), ("sum", n, "x", (ANY,), 0))
            self.assertIs(is_rule(S, (("near", (v(n),)), FAR[1])), True)
        for n in (20, -1, True, False, None, "0", 10 ** 39, (0,)):
            self.bad(("is", "x", (v(n),)), ("less", v(n), 1), ("many", n, "x", (1,)), ("sum", n, "x", (ANY,), 0))
            self.assertIs(is_rule(S, (("near", (v(n),)), FAR[1])), False)
        for term in (("?",), ("?", 0, 0), ("!", 0), ["?", 0], ("any", 0), (0, "?"), (), ("",)):
            self.bad(("is", "x", (term,)), ("same", term, 1), ("same", 1, term))

    def test_blanks(self):
        self.good(("is", "x", (ANY,)), ("not", "x", (ANY, ANY)), ("many", 0, "x", (ANY,)))
        for word in ("less", "same", "unlike"):
            self.bad((word, ANY, 1), (word, 1, ANY), (word, v(0), ANY))
        self.assertIs(is_rule(S, (("near", (ANY,)), FAR[1])), False)
        self.bad(("is", "x", (["any"],)), ("is", "x", (("any", "any"),)), ("is", "x", (("Any",),)))

    def test_at(self):
        for word in ("sum", "least", "greatest"):
            self.good((word, 0, "x", (1, ANY, v(0), ANY), 1), (word, 0, "x", (1, ANY, v(0), ANY), 3))
            for at in (0, 2, 4, -1, -3, True, None, "1", (1,), 10 ** 39):
                self.bad((word, 0, "x", (1, ANY, v(0), ANY), at))
            self.bad((word, 0, "x", (ANY,), False), (word, 0, "x", (ANY,)))
        self.bad(("many", 0, "x", (ANY,), 0))

    def test_how_many_conditions(self):
        for many in range(10):
            self.assertIs(is_rule(S, (HEAD, (CONDITIONS[0],) * many)), 1 <= many <= 8)
        self.assertIs(is_rule(S, (HEAD, (CONDITIONS[0], None))), False)

    def test_how_many_terms(self):
        for many in range(7):
            terms = (v(0),) * many
            for one in (("is", "x", terms), ("not", "x", terms), ("many", 0, "x", terms)):
                self.assertIs(is_rule(S, (HEAD, (one,))), 1 <= many <= 5)
            self.assertIs(is_rule(S, (("near", terms), NEAR[1])), 1 <= many <= 5)

    def test_as_many_terms_as_the_relation_has_places(self):
        for name, _, sorts in S:
            for many in range(1, 6):
                terms = (ANY,) * many
                for word in ("is", "not"):
                    self.assertIs(is_rule(S, (HEAD, ((word, name, terms),))), many == len(sorts))
                for one in (("many", 0, name, terms), ("sum", 0, name, terms, 0)):
                    self.assertIs(is_rule(S, (HEAD, (one,))), many == len(sorts))

    def test_worths_need_not_be_of_the_sorts(self):
        self.good(("is", "link", (1, 2)), ("is", "stock", (1, "a")))

    def test_worths(self):
        for worth in (0, -1, 10 ** 20 - 1, "", "a" * 20, "~'"):
            self.good(("is", "x", (worth,)), ("less", worth, worth))
            self.assertIs(is_rule(S, (("near", (worth,)), NEAR[1])), True)
        for worth in (10 ** 20, -10 ** 20, True, None, "a" * 21, "\n", b"a", ("a",), [1], {}):
            self.bad(("is", "x", (worth,)), ("less", worth, 1), ("unlike", 1, worth))
            self.assertIs(is_rule(S, (("near", (worth,)), NEAR[1])), False)

    def test_names(self):
        for name in ("near", "x", "abcdefgh", "is", "not", "many", "if", "any"):
            self.good(("is", name, (1,)), ("least", 0, name, (ANY,), 0))
            self.assertIs(is_rule(S, ((name, (1,)), NEAR[1])), True)
        for name in ("rule", "", "abcdefghi", "A", "a1", None, 1, ["x"], ("x",), b"x", True):
            self.bad(("is", name, (1,)), ("not", name, (1,)), ("many", 0, name, (1,)), ("least", 0, name, (ANY,), 0))
            self.assertIs(is_rule(S, ((name, (1,)), NEAR[1])), False)

    def test_heads(self):
        for head in (("near",), ("near", (1,), (1,)), ["near", (1,)], "near", (), None, ("near", 1), ((1,), "near")):
            self.assertIs(is_rule(S, (head, NEAR[1])), False)

    def test_no_name_of_the_schema_in_the_head(self):
        for name in ("link", "name", "stock"):
            self.assertIs(is_rule(S, ((name, (v(0), v(1))), NEAR[1])), False)

    def test_rules_that_are_not_safe(self):
        self.assertIs(is_rule(S, (("near", (v(0), v(7))), (("less", v(3), v(4)),))), True)

    def test_tuples_alone(self):
        for thing in (list(FAR), (list(FAR[0]), FAR[1]), (FAR[0], list(FAR[1])), (("near", [v(0)]), FAR[1]), (*FAR, 1),
                      FAR[:1], (HEAD, (("is", "link", [v(0), v(1)]),)), (HEAD, ("is", "link", (v(0), v(1))))):
            self.assertIs(is_rule(S, thing), False)

    def test_things_of_all_kinds(self):
        for thing in odd_things():
            self.assertIs(is_rule(S, thing), False)
            less = type(thing) is tuple and thing[:1] == ("less",) and len(thing) == 3 and all(map(sort_of, thing))
            self.assertIs(is_rule(S, (HEAD, (thing,))), less)
            pair = type(thing) is tuple and len(thing) == 2 and all(sort_of(part) for part in thing)
            self.assertIs(is_rule(S, (HEAD, (("is", "link", thing),))), pair)
        for thing in parts_put_otherwise(FAR, [None, [], {}, True, b"", ("a\n",), "a\n", object()]):
            self.assertIs(is_rule(S, thing), False)

    def test_no_schema(self):
        for thing in [*odd_things(), list(S), S[0], (S[1], S[0])]:
            self.assertRaises(NoSchema, is_rule, thing, FAR)

    def test_nothing_is_changed(self):
        unchanged(self, is_rule, S, [["near", [1]], [["is", "x", [1]]]])


class Ordered(unittest.TestCase):
    def test_numbers_ahead_of_words(self):
        rows = [("a",), (10,), ("",), (9,), (-1,), ("A",)]
        self.assertEqual(ordered(rows), ((-1,), (9,), (10,), ("",), ("A",), ("a",)))
        self.assertEqual(ordered([("a", "b"), ("a", 3), (7, "z")]), ((7, "z"), ("a", 3), ("a", "b")))

    def test_rows_that_others_begin_with(self):
        self.assertEqual(ordered([(1, 2, 3), (1,), (1, 2), (1, 1, 9)]), ((1,), (1, 1, 9), (1, 2), (1, 2, 3)))

    def test_each_once(self):
        self.assertEqual(ordered([("a", 1), ("b", 1), ("a", 1), ("b", 1)]), (("a", 1), ("b", 1)))

    def test_integers_of_any_size(self):
        rows = [(10 ** 39,), (-10 ** 3000,), (10 ** 3000,), (0,)]
        self.assertEqual(ordered(rows), ((-10 ** 3000,), (0,), (10 ** 39,), (10 ** 3000,)))

    def test_lists_and_tuples(self):
        self.assertEqual(ordered([]), ())
        self.assertEqual(ordered(()), ())
        self.assertEqual(ordered(((2,), (1,))), ordered([(2,), (1,)]))

    def test_all_orders(self):
        rows = [(1,), ("1",), (1, 1), ("a", "a"), ("a",)]
        for order in itertools.permutations(rows):
            self.assertEqual(ordered(order), ((1,), (1, 1), ("1",), ("a",), ("a", "a")))

    def test_rows_by_chance(self):
        for chance in chances(60):
            rows = [tuple(chance.choice([0, 1, -2, 10 ** 25, "", "a", "b", "~"]) for _ in range(chance.randrange(1, 6)))
                    for _ in range(chance.randrange(20))]
            self.assertEqual(ordered(rows), slow_rows(set(rows)))

    def test_no_rows(self):
        wrong = [(), (1,) * 6, (True,), (None,), ("a" * 21,), ("\n",), [1], 1, "a", None, ((1,),), ([1],), (b"a",),
                 (("?", 0),)]
        for row in wrong:
            self.assertRaises(NoRows, ordered, [row])
            self.assertRaises(NoRows, ordered, ((1,), row))
        for thing in (None, 1, "a", "", b"", {}, {(1,): 1}, range(0), True):
            self.assertRaises(NoRows, ordered, thing)

    def test_things_of_all_kinds(self):
        for thing in odd_things():
            try:
                self.assertIsInstance(ordered(thing), tuple)
                self.assertIsInstance(thing, (list, tuple))
            except NoRows:
                pass

    def test_nothing_is_changed(self):
        rows = [(2,), (1,), (2,)]
        self.assertEqual(unchanged(self, ordered, rows), ((1,), (2,)))
