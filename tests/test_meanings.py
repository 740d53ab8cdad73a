"""Point 2.3: the meaning of books, and rounds."""

import unittest

from shownviews.books import bar
from shownviews.errors import Barred, NoBook, NoName, NoSchema, NoTables
from shownviews.meanings import meaning, rounds
from tests.helpers import (ANY, FAR, NEAR, S, T, chances, odd_things, random_tables, rich_book, rule, slow_meaning,
                           slow_rounds, unchanged, v)

X, Y, Z = v(0), v(1), v(2)
M = (("n", "bag", ("number",)), ("s", "sum", ("word", "number")), ("w", "bag", ("word",)))
TM = {"n": ((-2,), (1,), (3,), (10,)), "s": (("a", 5), ("b", 10 ** 30), ("c", -1)), "w": (("",), ("a",), ("b",))}


def rows(name, terms, *body):
    """What a rule for x means, over tables of M."""
    return meaning(M, {"one": rule(name, terms, *body)}, TM)[name]


class Meanings(unittest.TestCase):
    def test_no_rules(self):
        self.assertEqual(meaning(S, {}, T), {})

    def test_names_without_rows_are_told(self):
        self.assertEqual(meaning(S, {"one": rule("x", [1], ("is", "none", (ANY,)))}, T), {"x": ()})

    def test_recursion(self):
        names = ["n" + "abcdefghijklmnopqrst"[at] for at in range(20)]
        tables = {**T, "link": tuple(zip(names, names[1:]))}
        told = meaning(S, {"one": NEAR, "two": FAR}, tables)["near"]
        self.assertEqual(told, tuple((one, other) for one in names for other in names if one < other))
        ring = {**T, "link": (("a", "b"), ("b", "c"), ("c", "a"))}
        self.assertEqual(len(meaning(S, {"one": NEAR, "two": FAR}, ring)["near"]), 9)

    def test_recursion_that_asks_twice(self):
        twice = rule("near", [X, Z], ("is", "near", (X, Y)), ("is", "near", (Y, Z)))
        names = "abcdefghij"
        tables = {**T, "link": tuple(zip(names, names[1:]))}
        told = meaning(S, {"one": NEAR, "two": twice}, tables)["near"]
        self.assertEqual(told, tuple((one, other) for one in names for other in names if one < other))
        self.assertEqual(rounds(S, {"one": NEAR, "two": twice}, tables, "near"), 5)
        self.assertEqual(rounds(S, {"one": NEAR, "two": FAR}, tables, "near"), 9)

    def test_not(self):
        book = {"one": NEAR, "two": FAR, "end": rule("end", [X], ("is", "link", (ANY, X)), ("not", "link", (X, ANY))),
                "far": rule("far", [X, Y], ("is", "near", (X, Y)), ("not", "link", (X, Y)))}
        told = meaning(S, book, T)
        self.assertEqual((told["end"], told["far"]), ((("c",),), (("a", "c"),)))

    def test_comparisons_of_numbers(self):
        for word, wanted in (("less", ((-2,), (1,))), ("same", ((3,),)), ("unlike", ((-2,), (1,), (10,)))):
            self.assertEqual(rows("x", [X], ("is", "n", (X,)), (word, X, 3)), wanted)

    def test_comparisons_of_words(self):
        for word, wanted in (("less", (("",),)), ("same", (("a",),)), ("unlike", (("",), ("b",)))):
            self.assertEqual(rows("x", [X], ("is", "w", (X,)), (word, X, "a")), wanted)

    def test_comparisons_of_the_one_and_the_other(self):
        for number in (-1, 0, 10 ** 19):
            for text in ("", "1", "a", str(number)):
                self.assertEqual(rows("x", [1], ("less", number, text)), ((1,),))
                self.assertEqual(rows("x", [1], ("less", text, number)), ())
                self.assertEqual(rows("x", [1], ("same", text, number)), ())
                self.assertEqual(rows("x", [1], ("unlike", number, text)), ((1,),))
        self.assertEqual(rows("x", [1], ("less", 1, 1)), ())
        self.assertEqual(rows("x", [1], ("less", "a", "a")), ())

    def test_rows_are_in_the_order_of_worths(self):
        told = meaning(M, {"one": rule("x", [X], ("is", "n", (X,))), "two": rule("x", [X], ("is", "w", (X,)))}, TM)["x"]
        self.assertEqual(told, ((-2,), (1,), (3,), (10,), ("",), ("a",), ("b",)))

    def test_blanks_and_worths(self):
        self.assertEqual(rows("x", [X], ("is", "s", (X, ANY))), (("a",), ("b",), ("c",)))
        self.assertEqual(rows("x", [X], ("is", "s", ("b", X))), ((10 ** 30,),))
        self.assertEqual(rows("x", ["z", X, 7], ("is", "n", (X,)), ("less", X, 0)), (("z", -2, 7),))
        self.assertEqual(rows("x", [1], ("is", "s", (ANY, ANY))), ((1,),))
        self.assertEqual(rows("x", [1], ("is", "s", (5, ANY))), ())

    def test_a_variable_twice(self):
        tables = {**T, "link": (("a", "a"), ("a", "b"), ("b", "a"), ("c", "c"), ("d", "a"))}
        told = meaning(S, {"one": rule("x", [X], ("is", "link", (X, X))),
                           "two": rule("y", [X, X], ("is", "link", (X, Y)), ("is", "link", (Y, X))),
                           "end": rule("z", [X], ("is", "link", (X, ANY)), ("not", "link", (X, X)))}, tables)
        self.assertEqual(told["x"], (("a",), ("c",)))
        self.assertEqual(told["y"], (("a", "a"), ("b", "b"), ("c", "c")))
        self.assertEqual(told["z"], (("b",), ("d",)))

    def test_many(self):
        self.assertEqual(rows("x", [X], ("many", 0, "n", (ANY,))), ((4,),))
        self.assertEqual(rows("x", [X], ("many", 0, "n", (3,))), ((1,),))
        self.assertEqual(rows("x", [X], ("many", 0, "n", (4,))), ((0,),))
        self.assertEqual(rows("x", [X], ("many", 0, "none", (ANY, ANY))), ((0,),))
        told = rows("x", [X, Y], ("is", "s", (X, ANY)), ("many", 1, "s", (X, ANY)))
        self.assertEqual(told, (("a", 1), ("b", 1), ("c", 1)))

    def test_sum(self):
        self.assertEqual(rows("x", [X], ("sum", 0, "n", (ANY,), 0)), ((12,),))
        self.assertEqual(rows("x", [X], ("sum", 0, "s", (ANY, ANY), 1)), ((10 ** 30 + 4,),))
        self.assertEqual(rows("x", [X], ("sum", 0, "s", (ANY, ANY), 0)), ((0,),))
        self.assertEqual(rows("x", [X], ("sum", 0, "none", (ANY,), 0)), ((0,),))

    def test_sums_of_many_digits(self):
        great = 10 ** 999
        tables = {**TM, "s": (("a", -great), ("b", 3 * great), ("c", 7))}
        told = meaning(M, {"one": rule("x", [X], ("sum", 0, "s", (ANY, ANY), 1)),
                           "two": rule("y", [Y], ("is", "x", (X,)), ("sum", 1, "s", (ANY, ANY), 1), ("same", X, Y))},
                       tables)
        self.assertEqual(told, {"x": ((2 * great + 7,),), "y": ((2 * great + 7,),)})

    def test_least_and_greatest(self):
        self.assertEqual(rows("x", [X, Y], ("least", 0, "n", (ANY,), 0), ("greatest", 1, "n", (ANY,), 0)), ((-2, 10),))
        self.assertEqual(rows("x", [X, Y], ("least", 0, "w", (ANY,), 0), ("greatest", 1, "w", (ANY,), 0)), (("", "b"),))
        for word in ("least", "greatest"):
            self.assertEqual(rows("x", [X], (word, 0, "none", (ANY,), 0)), ())
            self.assertEqual(rows("x", [X], (word, 0, "s", ("d", ANY), 1)), ())

    def test_counts_over_numbers_and_words(self):
        book = {"one": rule("x", [X], ("is", "n", (X,))), "two": rule("x", [X], ("is", "w", (X,)))}
        for at, (word, wanted) in enumerate((("many", 7), ("sum", 12), ("least", -2), ("greatest", "b"))):
            count = (word, 0, "x", (ANY,)) if word == "many" else (word, 0, "x", (ANY,), 0)
            book["r" + "abcd"[at]] = rule("y" + "abcd"[at], [X], count)
        told = meaning(M, book, TM)
        self.assertEqual([told["y" + end] for end in "abcd"], [((7,),), ((12,),), ((-2,),), (("b",),)])

    def test_the_n_of_a_count_that_is_bound_otherwise(self):
        told = rows("x", [X], ("is", "n", (X,)), ("many", 0, "w", (ANY,)))
        self.assertEqual(told, ((3,),))
        self.assertEqual(rows("x", [X], ("many", 0, "w", (ANY,)), ("many", 0, "n", (ANY,))), ())
        self.assertEqual(rows("x", [X], ("is", "n", (X,)), ("many", 0, "n", (X,))), ((1,),))

    def test_barred_names_beside_others(self):
        book = {"one": NEAR, "bad": rule("x", [X], ("is", "near", (1, 2))), "ring": rule("y", [1], ("not", "y", (1,))),
                "tail": rule("z", [X], ("is", "y", (X,)), ("is", "near", (X, X))),
                "own": rule("w", [X], ("is", "w", (X,)))}
        self.assertEqual(meaning(S, book, T), {"near": (("a", "b"), ("b", "c")), "w": ()})

    def test_names_with_other_numbers_of_places(self):
        two = rule("x", [X, X], ("is", "near", (X, ANY)))
        book = {"a": two, "b": rule("x", [1], ("is", "near", (ANY, ANY))), "c": rule("y", [X], ("is", "x", (X, X))),
                "d": rule("z", [X], ("is", "w", (X,))), "e": rule("w", [1, 1], ("is", "near", (ANY, ANY))), "f": NEAR}
        self.assertEqual(meaning(S, book, T), {"near": (("a", "b"), ("b", "c")), "w": ((1, 1),)})

    def test_words_that_are_names_of_the_layer(self):
        book = {"one": rule("x", [X], ("is", "link", (X, ANY)), ("less", "x", "y"), ("unlike", "x", X)),
                "two": rule("x", [X], ("is", "x", (Y,)), ("same", "x", "x"), ("is", "link", (Y, X)))}
        self.assertEqual(meaning(S, book, T), {"x": (("a",), ("b",), ("c",))})
        self.assertEqual(rounds(S, book, T, "x"), 2)

    def test_a_rule_without_variables(self):
        self.assertEqual(rows("x", [1], ("unlike", 1, 2)), ((1,),))
        self.assertEqual(meaning(M, {"one": rule("x", [1], ("not", "y", (1,))), "two": rule("y", [1], ("less", 2, 1))},
                                 TM), {"x": ((1,),), "y": ()})

    def test_many_conditions_that_have_nothing_in_common(self):
        tables = {**TM, "n": tuple((n,) for n in range(200))}
        body = [("is", "n", (v(n),)) for n in range(8)]
        self.assertEqual(len(meaning(M, {"one": rule("x", [X], *body)}, tables)["x"]), 200)

    def test_books_by_chance(self):
        rowed, longest = 0, 0
        lots = [{"link": 2, "p": 1, "q": 2}, {"link": 2, "p": 1, "q": 2, "r": 2},
                {"link": 2, "stock": 2, "name": 2, "p": 1, "q": 2, "r": 1, "s": 2, "none": 1}]
        for at, chance in enumerate(chances(240)):
            names = lots[at % 3]
            book = rich_book(chance, names, [name for name in names if name in "pqrs"])
            tables = random_tables(chance)
            wanted = slow_meaning(S, book, tables)
            self.assertEqual(meaning(S, book, tables), wanted)
            rowed += sum(len(found) for found in wanted.values())
            for name in [*names, "other"]:
                longest = max(longest, self.try_rounds(book, tables, name))
        self.assertGreater(rowed, 500)
        self.assertGreater(longest, 3)

    def try_rounds(self, book, tables, name):
        why = bar(S, book, name)
        if why is None:
            self.assertEqual(rounds(S, book, tables, name), slow_rounds(S, book, tables, name))
            return rounds(S, book, tables, name)
        with self.assertRaises(Barred) as caught:
            rounds(S, book, tables, name)
        self.assertEqual(caught.exception.bar, why)
        return 0


class Rounds(unittest.TestCase):
    def test_of_names_without_rules(self):
        for name in ("link", "none", "rule"):
            self.assertEqual(rounds(S, {"one": NEAR, "bad": rule("x", [X], ("is", "x", (1,)))}, T, name), 0)

    def test_without_rows(self):
        self.assertEqual(rounds(S, {"one": rule("x", [1], ("is", "x", (1,)))}, T, "x"), 0)

    def test_the_example(self):
        self.assertEqual(rounds(S, {"one": NEAR, "two": FAR}, T, "near"), 2)
        self.assertEqual(rounds(S, {"one": NEAR}, T, "near"), 1)

    def test_names_of_one_layer_that_hang_on_one_another(self):
        book = {"a": rule("x", [X], ("is", "link", ("a", X))), "d": rule("z", [X], ("is", "y", (X,))),
                "b": rule("y", [Y], ("is", "x", (X,)), ("is", "link", (X, Y))),
                "c": rule("x", [Y], ("is", "y", (X,)), ("is", "link", (X, Y)))}
        tables = {**T, "link": tuple(zip("abcdef", "bcdefg"))}
        self.assertEqual([rounds(S, book, tables, name) for name in "xyz"], [6, 6, 7])
        book["e"] = rule("z", [X], ("is", "z", (X,)), ("is", "z", (X,)))
        self.assertEqual(rounds(S, book, tables, "z"), 7)
        self.assertEqual(rounds(S, {**book, "f": rule("w", [X], ("is", "z", (X,)))}, tables, "w"), 8)

    def test_names_of_lower_layers_are_whole_ahead(self):
        book = {"one": NEAR, "two": FAR, "c": rule("x", [X], ("is", "link", (X, ANY)), ("not", "near", (X, X))),
                "d": rule("x", [X], ("is", "x", (Y,)), ("is", "link", (Y, X)))}
        self.assertEqual(rounds(S, book, T, "x"), 2)

    def test_names_of_its_layer_on_which_it_does_not_hang_count_for_nothing(self):
        book = {"one": NEAR, "two": FAR, "c": rule("x", [X], ("is", "link", (X, ANY)))}
        tables = {**T, "link": tuple(zip("abcdef", "bcdefg"))}
        self.assertEqual((rounds(S, book, tables, "x"), rounds(S, book, tables, "near")), (1, 6))


class Errors(unittest.TestCase):
    def test_in_this_order(self):
        bad = {"one": rule("x", [X], ("less", 1, 2))}
        self.assertRaises(NoSchema, meaning, None, None, None)
        self.assertRaises(NoBook, meaning, S, None, None)
        self.assertRaises(NoTables, meaning, S, bad, None)
        self.assertRaises(NoSchema, rounds, None, None, None, None)
        self.assertRaises(NoBook, rounds, S, None, None, None)
        self.assertRaises(NoName, rounds, S, bad, None, None)
        self.assertRaises(NoTables, rounds, S, bad, None, "x")
        with self.assertRaises(Barred) as caught:
            rounds(S, bad, T, "x")
        self.assertEqual(caught.exception.bar, ("unsafe", "one"))

    def no_tables(self, thing):
        self.assertRaises(NoTables, meaning, S, {"one": NEAR}, thing)
        self.assertRaises(NoTables, rounds, S, {"one": NEAR}, thing, "near")

    def test_no_tables(self):
        for thing in [*odd_things(), list(T.items()), tuple(T.items())]:
            self.no_tables(thing)
        for name in T:
            self.no_tables({other: T[other] for other in T if other != name})
            self.no_tables({**T, name: None})
            self.no_tables({**T, name: list(T[name])})
        for name in ("near", "", None, 1, ("link",)):
            self.no_tables({**T, name: ()})
            self.no_tables({**{other: T[other] for other in T if other != "link"}, name: ()})

    def test_rows_of_tables(self):
        for found in ((("b", "b"), ("a", "b")), (("a", "b"), ("a", "b")), (("a",),), (("a", "b", "c"),), (("a", 1),),
                      (["a", "b"],), ("ab",), (("a", True),), (("a", "b" * 21),), (("a", "\n"),), ("a", "b"), (None,),
                      (("a", "b"), ("a", None))):
            self.no_tables({**T, "link": found})
        for found in ((("a", True),), (("a", "1"),), (("a", 2), ("a", 1)), ((1, 1),), (("a", None),), (None,), ((),),
                      (("a",),), (("a", 1, 1),), (["a", 1],), ("a",), (1,), ({},)):
            self.no_tables({**T, "stock": found})

    def test_integers_of_any_size_stand_last_in_sums_alone(self):
        schema = (("bag", "bag", ("number", "number")), ("cell", 1, ("number", "number")),
                  ("sum", "sum", ("number", "number")))
        empty = {"bag": (), "cell": (), "sum": ()}
        great = 10 ** 3000
        self.assertEqual(meaning(schema, {}, {**empty, "sum": ((1, -great), (1, 0), (1, great))}), {})
        for name, row in (("bag", (1, 10 ** 20)), ("cell", (1, 10 ** 20)), ("sum", (10 ** 20, 1))):
            self.assertRaises(NoTables, meaning, schema, {}, {**empty, name: (row,)})

    def test_one_key_may_stand_in_several_rows(self):
        self.assertEqual(meaning(S, {}, {**T, "name": (("a", "b"), ("a", "c")), "stock": (("a", 0), ("a", 1))}), {})

    def test_nothing_is_changed_and_all_is_new(self):
        book = {"one": NEAR, "two": FAR}
        told = unchanged(self, meaning, S, book, T)
        told.clear()
        self.assertEqual(len(unchanged(self, meaning, S, book, T)["near"]), 3)
        unchanged(self, rounds, S, book, T, "near")
