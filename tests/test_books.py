"""Point 2.2: safe rules, bars, layers."""

import unittest

from shownviews.books import bar, layer
from shownviews.errors import NoBook, NoName, NoSchema
from tests.helpers import (ANY, FAR, NEAR, S, chances, odd_things, random_book, rule, slow_bar, slow_layers, unchanged,
                           v)

X = v(0)


def on(name, *others):
    """A rule for a name of one place that asks others, those with a "!" ahead by "not", those with a "#" by a count."""
    words = {"!": lambda other: ("not", other, (1,)), "#": lambda other: ("many", 0, other, (ANY,))}
    body = [words[other[0]](other[1:]) if other[0] in words else ("is", other, (1,)) for other in others]
    return rule(name, [1], *body)


def book_of(*rules):
    return {"r" + "abcdefghijklmnopqrstuvwxyz"[at]: one for at, one in enumerate(rules)}


class Bars(unittest.TestCase):
    def unsafe(self, *body):
        self.assertEqual(bar(S, {"one": rule("x", [1], *body)}, "x"), ("unsafe", "one"))

    def safe(self, *body):
        self.assertIsNone(bar(S, {"one": rule("x", [1], *body)}, "x"))

    def test_none(self):
        self.assertIsNone(bar(S, {"one": NEAR, "two": FAR}, "near"))
        self.assertIsNone(bar(S, {}, "near"))
        for name in ("link", "other", "rule"):
            self.assertIsNone(bar(S, {"one": NEAR, "bad": rule("x", [X], ("not", "x", (X,)))}, name))

    def test_safe_rules(self):
        self.safe(("is", "link", (v(1), v(2))), ("less", v(1), v(2)), ("not", "name", (v(1), ANY)))
        self.safe(("many", 1, "link", (ANY, ANY)), ("same", v(1), 0))
        self.safe(("same", v(3), 1), ("sum", 3, "stock", (v(2), ANY), 1), ("many", 2, "y", (v(1),)),
                  ("least", 1, "y", (ANY,), 0))
        self.safe(("is", "link", (v(1), ANY)), ("many", 1, "y", (v(1),)))

    def test_rules_that_are_not_safe(self):
        self.unsafe(("less", v(1), 1))
        self.unsafe(("same", v(1), "a"))
        self.unsafe(("not", "link", (v(1), "a")))
        self.unsafe(("is", "link", (v(1), ANY)), ("not", "link", (v(2), ANY)))
        self.unsafe(("many", 1, "y", (v(1),)))
        self.unsafe(("many", 1, "y", (v(2),)), ("many", 2, "y", (v(1),)))
        self.unsafe(("is", "link", (v(1), ANY)), ("many", 3, "y", (v(2),)))
        self.assertEqual(bar(S, {"one": rule("x", [v(1)], ("is", "link", (v(2), v(3))))}, "x"), ("unsafe", "one"))

    def test_the_least_rule_that_is_not_safe(self):
        bad = rule("x", [X], ("is", "y", (1,)))
        worse = rule("y", [X], ("is", "x", (1,)))
        for one, other in (("a", "b"), ("b", "a")):
            self.assertEqual(bar(S, {one: bad, other: worse}, "x"), ("unsafe", "a"))
        self.assertEqual(bar(S, {"a": worse, "b": bad, "c": on("z", "y")}, "z"), ("unsafe", "a"))
        self.assertIsNone(bar(S, {"a": worse, "b": bad, "c": on("z", "z")}, "z"))

    def test_places(self):
        two = rule("x", [1, 2], ("is", "link", (ANY, ANY)))
        self.assertEqual(bar(S, {"a": on("x", "z"), "b": two}, "x"), ("places", "b"))
        self.assertEqual(bar(S, {"c": on("x", "z"), "b": two}, "x"), ("places", "c"))
        book = {"b": two, "d": on("y", "x"), "c": on("y", "!x"), "a": on("y", "z")}
        self.assertEqual(bar(S, book, "y"), ("places", "c"))
        self.assertEqual(bar(S, {"b": two, "d": on("y", "#x")}, "y"), ("places", "d"))
        self.assertIsNone(bar(S, {"b": two, "d": on("y", "#x")}, "x"))
        # A name without rules may stand with any number of places.
        self.assertIsNone(bar(S, {"a": rule("x", [1], ("is", "z", (1,)), ("is", "z", (1, 2)))}, "x"))

    def test_rings_of_one_name(self):
        self.assertEqual(bar(S, book_of(on("x", "!x")), "x"), ("ring", ("x",)))
        self.assertEqual(bar(S, book_of(on("x", "#x")), "x"), ("ring", ("x",)))
        self.assertIsNone(bar(S, book_of(on("x", "x")), "x"))

    def test_rings_of_several_names(self):
        self.assertIsNone(bar(S, book_of(on("a", "b"), on("b", "a")), "a"))
        self.assertEqual(bar(S, book_of(on("a", "b"), on("b", "!a")), "a"), ("ring", ("b", "a")))
        self.assertEqual(bar(S, book_of(on("a", "!b"), on("b", "!a")), "b"), ("ring", ("a", "b")))
        self.assertEqual(bar(S, book_of(on("a", "#b"), on("b", "c"), on("c", "a")), "c"), ("ring", ("a", "b", "c")))
        self.assertEqual(bar(S, book_of(on("a", "b"), on("b", "c"), on("c", "!a")), "c"), ("ring", ("c", "a", "b")))

    def test_the_ring_of_the_fewest_names(self):
        book = book_of(on("a", "!b"), on("b", "c", "!d"), on("c", "a"), on("d", "b"))
        self.assertEqual(bar(S, book, "a"), ("ring", ("b", "d")))
        self.assertEqual(bar(S, book_of(on("a", "!b"), on("b", "a", "z"), on("z", "#z")), "a"), ("ring", ("z",)))

    def test_the_least_ring(self):
        book = book_of(on("a", "!c", "b"), on("b", "!a"), on("c", "a"), on("d", "!d", "a"))
        self.assertEqual(bar(S, book, "a"), ("ring", ("a", "c")))
        book = book_of(on("a", "!d", "!e"), on("d", "f", "g"), on("e", "f"), on("f", "a"), on("g", "a"))
        self.assertEqual(bar(S, book, "g"), ("ring", ("a", "d", "f")))

    def test_tails_that_lead_to_a_ring(self):
        book = book_of(on("a", "b"), on("b", "!c"), on("c", "d"), on("d", "!c"))
        for name in "abcd":
            self.assertEqual(bar(S, book, name), ("ring", ("d", "c")))
        self.assertIsNone(bar(S, {**book, "z": on("e", "e")}, "e"))

    def test_what_comes_first(self):
        unsafe, ring = rule("x", [X], ("not", "y", (X,))), on("y", "!y")
        places = rule("x", [1], ("is", "y", (1, 2)))
        self.assertEqual(bar(S, {"a": ring, "b": places, "c": unsafe}, "x"), ("unsafe", "c"))
        self.assertEqual(bar(S, {"a": ring, "b": places}, "x"), ("places", "b"))
        self.assertEqual(bar(S, {"a": ring, "b": places}, "y"), ("ring", ("y",)))

    def test_books_by_chance(self):
        seen = {}
        for chance in chances(500):
            names = {"link": 2, "name": 2, "p": 1, "q": 2, "r": 1, "s": 1, "none": 1}
            book = random_book(chance, names, ["p", "q", "r", "s"])
            if chance.random() < 0.2:
                book["rz"] = random_book(chance, {**names, "p": 2}, ["p", "q"])["ra"]
            for name in ("p", "q", "r", "s", "link", "none"):
                told = bar(S, book, name)
                self.assertEqual(told, slow_bar(S, book, name))
                seen[told[0] if told else None] = seen.get(told[0] if told else None, 0) + 1
        self.assertTrue(all(seen[kind] > 20 for kind in ("unsafe", "places", "ring", None)), seen)

    def test_long_chains(self):
        names = ["n" + "".join(chr(97 + at // 26 ** k % 26) for k in range(3)) for at in range(1200)]
        book = {name: on(name, "!" + other) for name, other in zip(names, [*names[1:], "end"])}
        self.assertIsNone(bar(S, book, names[0]))
        self.assertEqual(layer(S, book, names[0]), 1199)
        book["last"] = on("end", names[0])
        self.assertEqual(len(bar(S, book, names[0])[1]), 1201)


class Layers(unittest.TestCase):
    def test_is_not_and_counts(self):
        book = book_of(on("a", "z"), on("b", "a"), on("c", "!b"), on("d", "c", "a"), on("e", "#d"), on("e", "a"),
                       on("f", "f", "e"), on("g", "h", "!a"), on("h", "g"))
        told = {name: layer(S, book, name) for name in "abcdefgh"}
        self.assertEqual(told, {"a": 0, "b": 0, "c": 1, "d": 1, "e": 2, "f": 2, "g": 1, "h": 1})

    def test_names_of_the_schema_count_for_nothing(self):
        self.assertEqual(layer(S, {"one": rule("x", [1], ("not", "link", ("a", ANY)))}, "x"), 0)
        self.assertEqual(layer(S, {"one": rule("x", [1], ("many", 1, "none", (ANY,)))}, "x"), 0)

    def test_other_names(self):
        book = {"one": NEAR, "two": rule("x", [1], ("not", "x", (1,))), "c": rule("y", [1], ("is", "x", (1,)))}
        for name in ("link", "none", "rule", "x", "y"):
            self.assertIsNone(layer(S, book, name))
        self.assertEqual(layer(S, book, "near"), 0)

    def test_books_by_chance(self):
        seen = {}
        for chance in chances(400):
            book = random_book(chance, {"link": 2, "p": 1, "q": 1, "r": 1, "s": 1}, ["p", "q", "r", "s"])
            layers = slow_layers(S, book)
            for name in ("p", "q", "r", "s", "link"):
                told = layer(S, book, name)
                self.assertEqual(told, layers.get(name))
                seen[told] = True
        self.assertTrue({None, 0, 1, 2} <= set(seen), seen)


class Errors(unittest.TestCase):
    def test_in_this_order(self):
        for call in (bar, layer):
            self.assertRaises(NoSchema, call, None, None, None)
            self.assertRaises(NoBook, call, S, None, None)
            self.assertRaises(NoName, call, S, {}, None)

    def test_no_schema(self):
        for thing in odd_things()[:80]:
            for call in (bar, layer):
                self.assertRaises(NoSchema, call, thing, {}, "x")

    def test_no_book(self):
        wrong = [{"": NEAR}, {"A": NEAR}, {1: NEAR}, {None: NEAR}, {("one",): NEAR}, {"abcdefghi": NEAR},
                 {b"one": NEAR}, {"one": None}, {"one": list(NEAR)}, {"one": NEAR, "two": 1},
                 {"one": (("link", (1,)), NEAR[1])}, [("one", NEAR)], (("one", NEAR),), "one", None, [], ()]
        for thing in [*wrong, *[thing for thing in odd_things() if thing != {}]]:
            for call in (bar, layer):
                self.assertRaises(NoBook, call, S, thing, "x")

    def test_no_name(self):
        for thing in odd_things():
            for call in (bar, layer):
                if thing not in ("a", "link", "rule"):
                    self.assertRaises(NoName, call, S, {"one": NEAR}, thing)

    def test_titles_are_any_names(self):
        self.assertIsNone(bar(S, {"rule": NEAR, "link": FAR, "near": NEAR}, "near"))

    def test_nothing_is_changed(self):
        unchanged(self, bar, S, {"one": NEAR, "two": on("x", "!x")}, "x")
        unchanged(self, layer, S, {"one": NEAR, "two": on("x", "x")}, "x")
