"""Point 1.1: worths, names, schemas, rows."""

import unittest

from shownviews.errors import NoName
from shownviews.schemas import is_row, is_schema
from tests.helpers import S, odd_things, sort_of, unchanged

W = ("word",)
N = ("number",)


def bags(*names):
    return tuple((name, "bag", W) for name in names)


class Schemas(unittest.TestCase):
    def test_the_example(self):
        self.assertIs(is_schema(S), True)

    def test_how_many_relations(self):
        names = "abcdefghi"
        for many in range(10):
            self.assertIs(is_schema(bags(*names[:many])), 1 <= many <= 8)

    def test_names(self):
        for name in ("a", "z", "abcdefgh", "bag", "rules", "any"):
            self.assertIs(is_schema(bags(name)), True)
        for name in ("", "rule", "abcdefghi", "A", "a1", "a b", "a_", "\xe4", "`", "{", "a\n", None, b"a", ["a"], 1,
                     ("a",)):
            self.assertIs(is_schema(bags(name)), False)
        self.assertIs(is_schema(bags("a", "rule", "z")), False)

    def test_names_are_ascending(self):
        self.assertIs(is_schema(bags("a", "aa", "b")), True)
        self.assertIs(is_schema(bags("b", "a")), False)
        self.assertIs(is_schema(bags("a", "c", "b")), False)
        self.assertIs(is_schema(bags("a", "a")), False)

    def test_kinds(self):
        for kind in ("bag", "sum", 0, 1, 2):
            self.assertIs(is_schema((("a", kind, ("word", "word", "number")),)), True)
        for kind in (3, 4, -1, True, False, "", "cells", "Bag", None, ["bag"], ("bag",), b"bag", 10 ** 39):
            self.assertIs(is_schema((("a", kind, ("word", "word", "number")),)), False)
        for many in range(1, 6):
            self.assertIs(is_schema((("a", many - 1, N * many),)), True)
            self.assertIs(is_schema((("a", many, N * many),)), False)

    def test_the_last_sort_of_a_sum(self):
        self.assertIs(is_schema((("a", "sum", N),)), True)
        self.assertIs(is_schema((("a", "sum", W),)), False)
        self.assertIs(is_schema((("a", "sum", ("number", "word")),)), False)

    def test_sorts(self):
        for many in range(7):
            self.assertIs(is_schema((("a", "bag", W * many),)), 1 <= many <= 5)
        for sorts in (["word"], "word", ("words",), ("number", None), (1,), (("word",),), None, {"word": 1}):
            self.assertIs(is_schema((("a", "bag", sorts),)), False)

    def test_lists_in_the_place_of_tuples(self):
        self.assertIs(is_schema(list(S)), False)
        self.assertIs(is_schema(tuple(list(one) for one in S)), False)
        self.assertIs(is_schema((*S[:2], ["stock", "sum", ("word", "number")])), False)

    def test_longer_and_shorter_triples(self):
        self.assertIs(is_schema((("a", "bag"),)), False)
        self.assertIs(is_schema((("a", "bag", W, W),)), False)
        self.assertIs(is_schema(("a", "bag", W)), False)

    def test_things_of_all_kinds(self):
        for thing in odd_things():
            self.assertIs(is_schema(thing), False)


class Rows(unittest.TestCase):
    def number(self, thing):
        return is_row((("a", "bag", N),), "a", (thing,))

    def word(self, thing):
        return is_row((("a", "bag", W),), "a", (thing,))

    def test_rows_of_the_example(self):
        self.assertIs(is_row(S, "link", ("a", "b")), True)
        self.assertIs(is_row(S, "name", ("a", "")), True)
        self.assertIs(is_row(S, "stock", ("a", -3)), True)
        for row in ((), ("a",), ("a", 1, 1), ("a", "b"), (1, 1), (1, "a"), ["a", 1], ("a", True), ("a", None), "a1"):
            self.assertIs(is_row(S, "stock", row), False)

    def test_integers(self):
        for thing in (0, 1, -1, 10 ** 20 - 1, 1 - 10 ** 20, 10 ** 19):
            self.assertIs(self.number(thing), True)
        for thing in (10 ** 20, -10 ** 20, 10 ** 39, -10 ** 39, True, False, "1", "", None, (1,), [1]):
            self.assertIs(self.number(thing), False)

    def test_a_sum_has_no_longer_integers_here(self):
        self.assertIs(is_row(S, "stock", ("a", 10 ** 20 - 1)), True)
        self.assertIs(is_row(S, "stock", ("a", 10 ** 20)), False)

    def test_words(self):
        for thing in ("", "a", " ", "~", "'", "a" * 20, " ~" * 10, "rule", "A", "1"):
            self.assertIs(self.word(thing), True)
        for thing in ("a" * 21, "a\n", "\n", "\x7f", "\x1f", "\xe4", "a" * 20000, 1, None, True, b"a", ("a",), ["a"]):
            self.assertIs(self.word(thing), False)

    def test_no_name(self):
        for name in ("x", "", "rule", "Link", "links", None, 1, True, ["link"], ("link",), b"link", {}, (S, "link")):
            self.assertRaises(NoName, is_row, S, name, ("a", "b"))
        for thing in odd_things():
            if thing != "link":
                self.assertRaises(NoName, is_row, S, thing, None)

    def test_things_of_all_kinds(self):
        for name, _, sorts in S:
            for thing in odd_things():
                fits = type(thing) is tuple and [sort_of(part) for part in thing] == list(sorts)
                self.assertIs(is_row(S, name, thing), fits)

    def test_nothing_is_changed(self):
        self.assertIs(unchanged(self, is_row, S, "link", ["a", "b"]), False)
        self.assertIs(unchanged(self, is_schema, [["a", "bag", ["word"]]]), False)
