"""Points 3.2 to 3.4: closed lots, answers, traces, seeks, better plans."""

import unittest

from shownviews.books import bar
from shownviews.errors import (Barred, NoBook, NoClosed, NoNumber, NoPattern, NoPlan, NoSchema, NoTables, TooMany)
from shownviews.lots import answer, better, closed_lot, is_closed, seeks, trace
from shownviews.plans import is_plan
from tests.helpers import (ANY, FAR, NEAR, S, T, chances, odd_things, order_of, parts_put_otherwise, random_tables,
                           rich_book, rule, slow_rows, sort_of, unchanged, v)
from tests.slowly import (changed, fits, lot_of, rows_of_all, slow_closed, slow_least, slow_orders, slow_plans,
                          titles_of)

X, Y, Z = v(0), v(1), v(2)
BOOK = {"one": NEAR, "two": FAR}
QUESTION = ("near", ("a", None))
NAMES = {"link": 2, "stock": 2, "name": 2, "p": 1, "q": 2, "r": 1, "s": 2, "none": 1}
WORTHS = [None] * 9 + ["a", "b", "c"] * 2 + [1, 10 ** 30]


def pattern_order(pattern):
    return (pattern[0], [(-1, 0) if worth is None else order_of(worth) for worth in pattern[1]])


def ascending(facts):
    return sorted(facts, key=lambda fact: (fact[0], [order_of(worth) for worth in fact[1]]))


def random_question(chance, names):
    name = chance.choice([*sorted(names), "p", "q", "s", "q", "s"])
    many = names[name] if chance.random() < 0.95 else chance.randrange(1, 6)
    return (name, tuple(chance.choice(WORTHS) for _ in range(many)))


def random_plan(chance, book):
    """A plan with orders for some rules and lots."""
    told = []
    for title in sorted(book):
        places = range(len(book[title][0][1]))
        for lot in {tuple(at for at in places if chance.random() < 0.5) for _ in range(3)}:
            orders = slow_orders(book[title], lot)
            if orders:
                told.append((title, lot, chance.choice(orders)))
    return tuple(sorted(told))


def cases(many):
    """Books without a bar for the question's name, with plans, tables and questions."""
    for chance in chances(many):
        book = rich_book(chance, NAMES, list("pqrs"))
        tables = random_tables(chance)
        if chance.random() < 0.5:
            name = chance.choice("qs")
            book["qy"] = rule(name, [X, Y], ("is", "link", (X, Y)))
            book["qz"] = rule(name, [X, Z], ("is", "link", (Y, Z)), ("is", name, (X, Y)), ("unlike", X, Z))
            more = {(chance.choice("abcd"), chance.choice("abcd")) for _ in range(5)}
            tables["link"] = tuple(sorted({*tables["link"], *more}))
        question = random_question(chance, NAMES)
        if bar(S, book, question[0]) is None:
            yield chance, book, random_plan(chance, book), tables, question


def lot_for(book, plan, tables, question):
    return closed_lot(S, book, plan, tables, question)


class Answers(unittest.TestCase):
    def test_the_example(self):
        self.assertEqual(answer(S, BOOK, (), T, QUESTION), (("a", "b"), ("a", "c")))

    def test_names_of_the_schema(self):
        for question, wanted in ((("link", (None, None)), T["link"]), (("link", ("a", None)), (("a", "b"),)),
                                 (("link", (None, "c")), (("b", "c"),)), (("link", ("c", None)), ()),
                                 (("link", ("a", "b")), (("a", "b"),)), (("link", (None,)), ()),
                                 (("link", (None, None, None)), ())):
            self.assertEqual(answer(S, BOOK, (), T, question), wanted)

    def test_names_that_nothing_tells(self):
        for name in ("none", "rule", "one"):
            for terms in ((None,), ("a", 1, None, 2, "b")):
                self.assertEqual(answer(S, BOOK, (), T, (name, terms)), ())
                self.assertEqual(closed_lot(S, BOOK, (), T, (name, terms)), ((), ()))
                self.assertEqual(trace(S, BOOK, (), T, (name, terms), ((), ())), ())
                self.assertEqual(seeks(S, BOOK, (), T, (name, terms)), 0)
                self.assertEqual(better(S, BOOK, T, (name, terms), 1), ())

    def test_all_places_and_other_numbers_of_places(self):
        self.assertEqual(answer(S, BOOK, (), T, ("near", ("a", "c"))), (("a", "c"),))
        self.assertEqual(answer(S, BOOK, (), T, ("near", ("c", "a"))), ())
        self.assertEqual(answer(S, BOOK, (), T, ("near", (None,))), ())
        self.assertEqual(closed_lot(S, BOOK, (), T, ("near", (None,))), ((("near", (None,)),), ()))

    def test_by_chance(self):
        told = 0
        for _, book, plan, tables, question in cases(200):
            rows = rows_of_all(S, book, tables).get(question[0], ())
            wanted = slow_rows(row for row in rows if fits(row, question[1]))
            self.assertEqual(answer(S, book, plan, tables, question), wanted)
            told += len(wanted)
        self.assertGreater(told, 150)

    def test_integers_of_many_digits(self):
        great = 10 ** 900
        tables = {**T, "stock": (("a", great), ("b", 3))}
        book = {"one": rule("x", [X], ("is", "stock", (ANY, X)))}
        self.assertEqual(answer(S, book, (), tables, ("x", (great,))), ((great,),))
        told = closed_lot(S, book, (), tables, ("x", (great,)))
        self.assertEqual(told[1][0][1:2] + told[1][0][3:], ((great,), "one", ((0, great),)))
        self.assertEqual(trace(S, book, (), tables, ("x", (great,)), told), (("stock", (), ()),))


class ClosedLots(unittest.TestCase):
    def test_a_small_one(self):
        asked, claimed = closed_lot(S, BOOK, (), T, QUESTION)
        self.assertEqual(asked, (QUESTION,))
        self.assertEqual([claim[:2] + claim[3:] for claim in claimed], [
            ("near", ("a", "b"), "one", ((0, "a"), (1, "b"))),
            ("near", ("a", "c"), "two", ((0, "a"), (1, "b"), (2, "c")))])
        self.assertLess(claimed[0][2], claimed[1][2])

    def test_it_goes_by_the_plan(self):
        plan = (("two", (1,), (1, 0)),)
        self.assertEqual(closed_lot(S, BOOK, (), T, ("near", (None, "c")))[0],
                         (("near", (None, None)), ("near", (None, "c"))))
        self.assertEqual(closed_lot(S, BOOK, plan, T, ("near", (None, "c")))[0],
                         (("near", (None, "a")), ("near", (None, "b")), ("near", (None, "c"))))

    def test_patterns_are_ascending(self):
        book = {"a": rule("x", [X], ("is", "y", (X, ANY)), ("is", "y", (1, X)), ("not", "y", ("a", X))),
                "b": rule("y", [1, 1], ("less", 1, 2)), "c": rule("y", ["b", 3], ("less", 1, 2))}
        asked, claimed = closed_lot(S, book, (), T, ("x", (None,)))
        self.assertEqual(asked, (("x", (None,)), ("y", (None, None)), ("y", (1, 1)), ("y", (1, "b")), ("y", ("a", 1))))
        self.assertEqual([claim[:2] for claim in claimed], [("x", (1,)), ("y", (1, 1)), ("y", ("b", 3))])

    def test_by_chance(self):
        sizes = []
        for _, book, plan, tables, question in cases(240):
            told = lot_for(book, plan, tables, question)
            rows = rows_of_all(S, book, tables)
            asked, facts, _ = slow_least(book, plan, rows, question, S)
            self.assertEqual(told[0], tuple(sorted(asked, key=pattern_order)))
            self.assertEqual([claim[:2] for claim in told[1]], ascending(facts))
            self.assertIs(is_closed(S, book, plan, tables, question, told), True)
            self.assertTrue(slow_closed(S, book, plan, tables, question, told))
            sizes.append(len(told[0]) + len(told[1]))
        self.assertGreater(len([size for size in sizes if size > 6]), 25)

    def test_each_less_is_not_closed(self):
        seen = 0
        for _, book, plan, tables, question in cases(60):
            asked, claimed = lot_for(book, plan, tables, question)
            if len(asked) + len(claimed) > 12:
                continue
            for at in range(len(asked)):
                less = (asked[:at] + asked[at + 1:], claimed)
                self.assertIs(is_closed(S, book, plan, tables, question, less), False)
            for at in range(len(claimed)):
                less = (asked, claimed[:at] + claimed[at + 1:])
                self.assertIs(is_closed(S, book, plan, tables, question, less), False)
                seen += 1
        self.assertGreater(seen, 30)

    def test_lots_put_otherwise_by_chance(self):
        """What is told of lots with parts left out, put in or put otherwise, beside the slow way."""
        seen = {True: 0, False: 0}
        for chance, book, plan, tables, question in cases(150):
            told = lot_for(book, plan, tables, question)
            others = [lot_for(book, plan, tables, other) for other in self.other_questions(chance, book, question)]
            for other in others:
                more = self.mixed(chance, book, told, other)
                wanted = slow_closed(S, book, plan, tables, question, more)
                self.assertIs(is_closed(S, book, plan, tables, question, more), wanted, more)
                seen[wanted] += 1
        self.assertGreater(min(seen.values()), 60, seen)

    def other_questions(self, chance, book, question):
        names = [one[0][0] for one in book.values()]
        told = [(name, tuple(chance.choice(WORTHS) for _ in range(NAMES[name]))) for name in names]
        return [one for one in told if bar(S, book, one[0]) is None]

    def mixed(self, chance, book, told, other):
        """Both lots put together, some things of them put otherwise now and then."""
        asked = dict.fromkeys(told[0] + other[0])
        claims = {claim[:2]: claim for claim in (other[1] + told[1] if chance.random() < 0.5 else told[1] + other[1])}
        asked, claims = list(asked), list(claims.values())
        chance.shuffle(asked)
        chance.shuffle(claims)
        kind = chance.randrange(6)
        if kind == 0 and asked:
            asked.pop()
        if kind == 1 and claims:
            claims.pop()
        if kind == 2 and claims:
            name, row, height, title, pairs = claims.pop()
            claims.append((name, row, chance.choice([0, height - 1, height + 1]), title, pairs))
        if kind == 3:
            claims = [(name, row, 7 * height + 1, title, pairs) for name, row, height, title, pairs in claims]
        if kind == 4 and claims:
            name, row, height, title, pairs = claims.pop()
            claims.append((name, row, height, chance.choice(titles_of(book, name)), pairs))
        return tuple(asked), tuple(claims)

    def test_the_fact_of_closed_lots(self):
        """In every closed lot the claimed rows that fit a pattern asked are those of the meaning."""
        for chance, book, plan, tables, question in cases(80):
            rows = rows_of_all(S, book, tables)
            for other in self.other_questions(chance, book, question):
                more = self.mixed(chance, book, lot_for(book, plan, tables, question),
                                  lot_for(book, plan, tables, other))
                if is_closed(S, book, plan, tables, question, more):
                    for name, terms in more[0]:
                        found = slow_rows(claim[1] for claim in more[1] if claim[0] == name and fits(claim[1], terms))
                        self.assertEqual(found, slow_rows(row for row in rows[name] if fits(row, terms)))


class IsClosed(unittest.TestCase):
    told = closed_lot(S, BOOK, (), T, QUESTION)

    def closed(self, asked, claimed, question=QUESTION, plan=()):
        return is_closed(S, BOOK, plan, T, question, (asked, claimed))

    def test_more_patterns_and_other_orders(self):
        asked, claimed = self.told
        self.assertIs(self.closed(asked, claimed), True)
        self.assertIs(self.closed(asked, claimed[::-1]), True)
        whole = closed_lot(S, BOOK, (), T, ("near", (None, None)))
        self.assertIs(self.closed(whole[0] + asked, whole[1]), True)
        self.assertIs(self.closed(asked + whole[0], whole[1][::-1]), True)
        self.assertIs(self.closed(whole[0], whole[1]), False)
        self.assertIs(self.closed(asked + (("near", ("c", None)),), claimed), True)
        self.assertIs(self.closed(asked + (("near", ("a",)), ("near", (1, 2, 3))), claimed), True)

    def test_spread_heights(self):
        asked, (first, second) = self.told
        for low, high, wanted in ((0, 1, True), (5, 10 ** 39, True), (1, 1, False), (2, 1, False), (0, 0, False)):
            claimed = ((*first[:2], low, *first[3:]), (*second[:2], high, *second[3:]))
            self.assertIs(self.closed(asked, claimed), wanted)

    def test_less_and_twice(self):
        asked, claimed = self.told
        self.assertIs(self.closed((), claimed), False)
        self.assertIs(self.closed((), ()), False)
        self.assertIs(self.closed(asked, ()), False)
        self.assertIs(self.closed(asked, claimed[:1]), False)
        self.assertIs(self.closed(asked, claimed[1:]), False)
        self.assertIs(self.closed(asked + asked, claimed), False)
        self.assertIs(self.closed(asked, claimed + claimed[:1]), False)
        first = claimed[0]
        for height in (0, 99):
            self.assertIs(self.closed(asked, claimed + ((*first[:2], height, *first[3:]),)), False)
            self.assertIs(self.closed(asked, ((*first[:2], height, *first[3:]), *claimed)), False)

    def test_names_on_which_it_does_not_hang(self):
        book = {**BOOK, "c": rule("x", [X], ("is", "near", (X, ANY))), "d": rule("y", [1], ("less", 1, 2))}
        asked, claimed = closed_lot(S, book, (), T, ("near", (None, None)))
        self.assertIs(is_closed(S, book, (), T, ("near", (None, None)), (asked, claimed)), True)
        for name in ("x", "y", "link", "none"):
            more = asked + ((name, (None,)),)
            self.assertIs(is_closed(S, book, (), T, ("near", (None, None)), (more, claimed)), False)
        more = closed_lot(S, book, (), T, ("y", (None,)))
        self.assertIs(is_closed(S, book, (), T, ("near", (None, None)), (asked, claimed + more[1])), False)
        more = closed_lot(S, book, (), T, ("x", (None,)))
        self.assertIs(is_closed(S, book, (), T, ("x", (None,)), more), True)

    def test_rows_that_hold_up_one_another(self):
        book = {"a": rule("x", [X], ("is", "y", (X,))), "b": rule("y", [X], ("is", "x", (X,))),
                "c": rule("x", [X], ("is", "link", (X, "none")))}
        asked = (("x", ("a",)), ("y", ("a",)))
        for low, high in ((1, 2), (2, 1), (1, 1), (0, 9)):
            claimed = (("x", ("a",), low, "a", ((0, "a"),)), ("y", ("a",), high, "b", ((0, "a"),)))
            self.assertIs(is_closed(S, book, (), T, ("x", ("a",)), (asked, claimed)), False)
        self.assertIs(is_closed(S, book, (), T, ("x", ("a",)), (asked, ())), True)

    def test_heights_count_in_the_own_layer_alone(self):
        book = {"a": rule("x", [X], ("is", "y", (X,))), "b": rule("y", [X], ("is", "z", (X,)), ("not", "w", (1,))),
                "c": rule("z", ["a"], ("less", 1, 2)), "d": rule("w", [2], ("less", 1, 2)),
                "e": rule("z", ["b"], ("not", "v", (1,))), "f": rule("v", [X], ("is", "v", (X,)))}
        question = ("y", (None,))
        asked, claimed = closed_lot(S, book, (), T, question)
        flat = tuple((*claim[:2], 0, *claim[3:]) for claim in claimed)
        self.assertIs(is_closed(S, book, (), T, question, (asked, claimed)), True)
        self.assertIs(is_closed(S, book, (), T, question, (asked, flat)), False)
        lower = tuple((*claim[:2], 1 if claim[0] == "y" else 0, *claim[3:]) for claim in claimed)
        self.assertIs(is_closed(S, book, (), T, question, (asked, lower)), True)
        # Of z in the lower layer, w, no height is asked where y does not lie with it.
        book["b"] = rule("y", [X], ("is", "z", (X,)), ("not", "z", (1,)))
        asked, claimed = closed_lot(S, book, (), T, question)
        flat = tuple((*claim[:2], 0, *claim[3:]) for claim in claimed)
        self.assertIs(is_closed(S, book, (), T, question, (asked, flat)), True)

    def test_other_fillings_rules_and_rows(self):
        asked, (first, second) = self.told
        name, row, height, title, pairs = second
        wrong = [("near", ("a", "d"), height, title, pairs), (name, row, height, "one", pairs),
                 (name, row, height, "one", ((0, "a"), (1, "c"))), (name, row, height, title, pairs[:2]),
                 (name, row, height, title, ((0, "a"), (1, "a"), (2, "c"))),
                 (name, row, height, title, (*pairs, (3, "x"))), (name, row, height, title, ((0, "a", 1), *pairs[1:])),
                 (name, row, height, title, pairs[::-1]),
                 (name, row, height, title, list(pairs)), (name, row, height, title, dict(pairs)),
                 (name, row, True, title, pairs), (name, row, -1, title, pairs), (name, row, None, title, pairs),
                 (name, row, "1", title, pairs), (name, list(row), height, title, pairs),
                 (name, row, height, title, ((False, "a"), (True, "b"), (2, "c"))), (name, row, height, "three", pairs),
                 (name, row, height, None, pairs), (name, row, height, ["two"], pairs), ("link", row, height, title, pairs),
                 (["near"], row, height, title, pairs), second[:4], (*second, 1), list(second), None, ()]
        for claim in wrong:
            self.assertIs(self.closed(asked, (first, claim)), False, claim)
        self.assertIs(self.closed(asked, (first, second)), True)
        # A row more, to which no head comes, beside all that are right.
        for more in (("near", ("a", "d"), 99, title, pairs), ("near", ("a", "d"), 99, "one", ((0, "a"), (1, "d"))),
                     ("near", ("a",), 99, title, pairs)):
            self.assertIs(self.closed(asked, (first, second, more)), False)

    def test_words_that_are_names_of_the_layer(self):
        book = {"one": rule("x", [X], ("is", "link", (X, ANY)), ("less", "x", "y"), ("unlike", "x", X)),
                "two": rule("x", [X], ("is", "x", (Y,)), ("same", "x", "x"), ("is", "link", (Y, X)))}
        told = closed_lot(S, book, (), T, ("x", (None,)))
        self.assertEqual([claim[1] for claim in told[1]], [("a",), ("b",), ("c",)])
        self.assertIs(is_closed(S, book, (), T, ("x", (None,)), told), True)

    def test_flags_in_the_place_of_numbers(self):
        tables = {**T, "stock": (("a", 0), ("b", 1))}
        book = {"one": rule("x", [X], ("is", "stock", (ANY, X)))}
        for question in (("x", (None,)), ("x", (1,))):
            told = closed_lot(S, book, (), tables, question)
            seen = 0
            for thing in parts_put_otherwise(told, [True, False, None, 2, "a", [], ()]):
                if thing != told or repr(thing) != repr(told):
                    wanted = self.is_told_anew(told, thing)
                    self.assertIs(is_closed(S, book, (), tables, question, thing), wanted, thing)
                    seen += 1
            self.assertGreater(seen, 60)

    def is_told_anew(self, told, thing):
        """Whether just heights, which are free here, are put otherwise, or a pattern more general is asked."""
        try:
            same = [claim[:2] + claim[3:] for claim in thing[1]] == [claim[:2] + claim[3:] for claim in told[1]]
            heights = [claim[2] for claim in thing[1]]
        except (TypeError, IndexError):
            return False
        flags = "True" in repr(thing) or "False" in repr(thing)
        return same and not flags and thing[0] == told[0] and all(type(height) is int for height in heights)

    def test_things_of_all_kinds(self):
        asked, claimed = self.told
        for thing in odd_things():
            self.assertIs(is_closed(S, BOOK, (), T, QUESTION, thing), False)
            self.assertIs(self.closed(thing, claimed), False)
            self.assertIs(self.closed(asked, thing), False)
            self.assertIs(self.closed((thing,), claimed), False)
            self.assertIs(self.closed(asked + (thing,), claimed), False)
            if not self.are_terms(thing):
                self.assertIs(self.closed(asked + (("near", thing),), claimed), False)
            self.assertIs(self.closed(asked, claimed + (thing,)), False)
            for at in range(5):
                if at != 2 or type(thing) is not int:
                    claim = (*claimed[1][:at], thing, *claimed[1][at + 1:])
                    self.assertIs(self.closed(asked, (claimed[0], claim)), False)

    def are_terms(self, thing):
        """Whether one of the things of all kinds may stand in a pattern."""
        return type(thing) is tuple and 1 <= len(thing) <= 5 and all(one is None or sort_of(one) or one == 10 ** 39
                                                                     for one in thing)

    def test_questions_without_rules(self):
        for question in (("link", (None, None)), ("none", (1,)), ("rule", ("a",))):
            for thing in [*odd_things(), ((),), ((), (), ()), [(), ()], self.told, ((question,), ()), ((), [])]:
                self.assertIs(is_closed(S, BOOK, (), T, question, thing), repr(thing) == "((), ())")


class Traces(unittest.TestCase):
    def test_small_ones(self):
        told = closed_lot(S, BOOK, (), T, QUESTION)
        self.assertEqual(trace(S, BOOK, (), T, QUESTION, told),
                         (("link", ("a",), ("a",)), ("link", ("b",), ("b",)), ("link", ("c",), ("c",))))
        whole = closed_lot(S, BOOK, (), T, ("near", (None, None)))
        self.assertEqual(trace(S, BOOK, (), T, ("near", (None, None)), whole)[0], ("link", (), ()))

    def test_questions_of_the_schema(self):
        for terms, low in (((None, None), ()), (("a", None), ("a",)), ((None, "b"), ()), (("a", "b"), ("a", "b")),
                           (("a", None, "c"), ("a",)), ((1,), (1,))):
            self.assertEqual(trace(S, BOOK, (), T, ("link", terms), ((), ())), (("link", low, low),))
            self.assertEqual(seeks(S, BOOK, (), T, ("link", terms)), 1)

    def test_of_counts_and_not(self):
        book = {"a": rule("x", [X, Y], ("is", "name", (X, ANY)), ("many", 1, "link", (X, ANY)),
                          ("not", "stock", (X, Y)), ("not", "link", (ANY, X)))}
        tables = {**T, "name": (("a", "z"), ("b", "z"))}
        told = closed_lot(S, book, (), tables, ("x", (None, None)))
        self.assertEqual(trace(S, book, (), tables, ("x", (None, None)), told), (
            ("link", (), ()), ("link", ("a",), ("a",)), ("link", ("b",), ("b",)), ("name", (), ()),
            ("stock", ("a", 1), ("a", 1)), ("stock", ("b", 1), ("b", 1))))

    def test_by_chance(self):
        for _, book, plan, tables, question in cases(200):
            told = lot_for(book, plan, tables, question)
            asked, _, stretches = slow_least(book, plan, rows_of_all(S, book, tables), question, S)
            wanted = sorted(stretches, key=lambda part: (part[0], [order_of(worth) for worth in part[1]]))
            self.assertEqual(trace(S, book, plan, tables, question, told), tuple(wanted))
            self.assertEqual(seeks(S, book, plan, tables, question), len(asked) + len(stretches))

    def test_greater_lots_have_greater_traces(self):
        small = closed_lot(S, BOOK, (), T, QUESTION)
        whole = closed_lot(S, BOOK, (), T, ("near", (None, None)))
        told = trace(S, BOOK, (), T, QUESTION, (small[0] + whole[0], whole[1]))
        self.assertEqual(told, (("link", (), ()), ("link", ("a",), ("a",)), ("link", ("b",), ("b",)),
                                ("link", ("c",), ("c",))))
        for question, lot in ((QUESTION, small), (("near", (None, None)), whole)):
            self.assertTrue(set(trace(S, BOOK, (), T, question, lot)) < set(told))

    def test_the_fact_of_traces(self):
        """What lies outside of the trace changes neither closedness nor answer."""
        seen = 0
        for chance, book, plan, tables, question in cases(150):
            told = lot_for(book, plan, tables, question)
            stretches = trace(S, book, plan, tables, question, told)
            there = {(name, row) for name in tables for row in tables[name]}
            other = random_tables(chance)
            facts = there ^ {(name, row) for name in other for row in other[name]}
            outside = [fact for fact in facts
                       if not any(fact[0] == name and fact[1][:len(low)] == low for name, low, _ in stretches)]
            behind = changed(tables, [fact for fact in outside if fact in there],
                             [fact for fact in outside if fact not in there])
            self.assertIs(is_closed(S, book, plan, behind, question, told), True)
            self.assertEqual(trace(S, book, plan, behind, question, told), stretches)
            self.assertEqual(answer(S, book, plan, behind, question), answer(S, book, plan, tables, question))
            seen += len(outside)
        self.assertGreater(seen, 300)

    def test_no_closed(self):
        told = closed_lot(S, BOOK, (), T, QUESTION)
        for thing in [*odd_things(), list(told), (told[0], ()), ((), told[1]), (*told, ()), told[:1], (told[1], told[0])]:
            self.assertRaises(NoClosed, trace, S, BOOK, (), T, QUESTION, thing)
        self.assertRaises(NoClosed, trace, S, BOOK, (), T, ("link", (None, None)), told)


class Better(unittest.TestCase):
    def test_small_ones(self):
        # By the one order of the rule "two" all rows are asked, which lets two orders more; by the other one just those
        # that end somewhere.
        self.assertEqual(seeks(S, BOOK, (), T, ("near", (None, "b"))), 7)
        self.assertRaises(TooMany, better, S, BOOK, T, ("near", (None, "b")), 2)
        plan = better(S, BOOK, T, ("near", (None, "b")), 3)
        self.assertEqual(plan, (("two", (1,), (1, 0)),))
        self.assertEqual(seeks(S, BOOK, plan, T, ("near", (None, "b"))), 3)

    def test_compared_with_all_plans(self):
        gained, manies = 0, []
        for _, book, _, tables, question in cases(220):
            told = slow_plans(book, rows_of_all(S, book, tables), question, S, 150)
            if told is None:
                self.too_many(book, tables, question, 150)
                continue
            plan = better(S, book, tables, question, len(told))
            self.assertIs(is_plan(S, book, plan), True)
            self.assertEqual(seeks(S, book, plan, tables, question), min(told)[0])
            if len(told) > 1:
                self.too_many(book, tables, question, len(told) - 1)
            gained += seeks(S, book, (), tables, question) > min(told)[0]
            manies.append(len(told))
        self.assertGreater(gained, 10)
        self.assertGreater(max(manies), 50)
        self.assertGreater(len(set(manies)), 8)

    def too_many(self, book, tables, question, most):
        with self.assertRaises(TooMany) as caught:
            better(S, book, tables, question, most)
        self.assertEqual(caught.exception.most, most)

    def test_what_a_plan_is_told_apart_by(self):
        # With the one order the name y is asked by two lots, with the other one by one.
        book = {"a": rule("x", [X], ("is", "link", (X, ANY)), ("is", "y", (X, ANY)), ("is", "y", (ANY, X))),
                "b": rule("y", [X, Y], ("is", "link", (X, Y)), ("is", "name", (Y, ANY))),
                "c": rule("y", ["q", Y], ("is", "link", (ANY, Y)), ("is", "link", (Y, ANY)), ("is", "name", (Y, ANY)))}
        for tables in (T, {**T, "link": ()}):
            told = slow_plans(book, rows_of_all(S, book, tables), ("x", (None,)), S, 2000)
            better(S, book, tables, ("x", (None,)), len(told))
            self.assertRaises(TooMany, better, S, book, tables, ("x", (None,)), len(told) - 1)
            # A head that can not come to the pattern is gone by; one with other places is not.
            self.assertEqual(len(slow_plans(book, rows_of_all(S, book, tables), ("y", ("a", None)), S, 99)), 12)
            better(S, book, tables, ("y", ("a", None)), 12)
            self.assertRaises(TooMany, better, S, book, tables, ("y", ("a", None)), 11)
            self.assertEqual(better(S, book, tables, ("y", ("a",)), 1), ())

    def test_many_orders(self):
        seven = {"a": rule("x", [v(0)], *[("is", "link", (v(n), ANY)) for n in range(7)])}
        for most in (1, 1999, 2000):
            with self.assertRaises(TooMany) as caught:
                better(S, seven, T, ("x", (None,)), most)
            self.assertEqual(caught.exception.most, most)
        six = {"a": rule("x", [v(0)], *[("is", "link", (v(n), ANY)) for n in range(6)])}
        self.assertIs(is_plan(S, six, better(S, six, T, ("x", (None,)), 720)), True)
        self.assertRaises(TooMany, better, S, six, T, ("x", (None,)), 719)

    def test_no_number(self):
        for thing in [*odd_things(), 0, 2001, -1, True, False, None, "1", 10 ** 39]:
            if type(thing) is not int or not 1 <= thing <= 2000:
                self.assertRaises(NoNumber, better, S, BOOK, T, QUESTION, thing)
        self.assertEqual(better(S, BOOK, T, ("link", (None, None)), 1), ())
        self.assertEqual(better(S, BOOK, T, QUESTION, 2000), better(S, BOOK, T, QUESTION, 3))


class Errors(unittest.TestCase):
    bad = {"bad": rule("x", [X], ("less", 1, 2))}
    calls = [answer, closed_lot, seeks, lambda *given: is_closed(*given, None),
             lambda *given: trace(*given, None)]

    def test_in_this_order(self):
        for call in self.calls:
            self.assertRaises(NoSchema, call, None, None, None, None, None)
            self.assertRaises(NoBook, call, S, None, None, None, None)
            self.assertRaises(NoPlan, call, S, self.bad, None, None, None)
            self.assertRaises(NoTables, call, S, self.bad, (), None, None)
            self.assertRaises(NoPattern, call, S, self.bad, (), T, None)
            with self.assertRaises(Barred) as caught:
                call(S, self.bad, (), T, ("x", (None,)))
            self.assertEqual(caught.exception.bar, ("unsafe", "bad"))
        self.assertRaises(NoSchema, better, None, None, None, None, None)
        self.assertRaises(NoBook, better, S, None, None, None, None)
        self.assertRaises(NoTables, better, S, self.bad, None, None, None)
        self.assertRaises(NoPattern, better, S, self.bad, T, None, None)
        self.assertRaises(Barred, better, S, self.bad, T, ("x", (None,)), None)
        self.assertRaises(NoNumber, better, S, BOOK, T, QUESTION, None)

    def test_things_of_all_kinds(self):
        for thing in odd_things():
            for call in self.calls:
                self.assertRaises(NoSchema, call, thing, BOOK, (), T, QUESTION)
                if thing != {}:
                    self.assertRaises(NoBook, call, S, thing, (), T, QUESTION)
                if thing != ():
                    self.assertRaises(NoPlan, call, S, BOOK, thing, T, QUESTION)
                self.assertRaises(NoTables, call, S, BOOK, (), thing, QUESTION)
            self.assertRaises(NoSchema, better, thing, BOOK, T, QUESTION, 1)
            self.assertRaises(NoTables, better, S, BOOK, thing, QUESTION, 1)

    def test_no_pattern(self):
        wrong = [("near", ()), ("near", (None,) * 6), ("near", [None]), ["near", (None,)], ("NEAR", (None,)), ("", (1,)),
                 ("near", (True,)), ("near", ("a" * 21,)), ("near", ("\n",)), ("near", ((),)), ("near", (ANY,)),
                 ("near", (X,)), ("near", None), ("near", "ab"), ("near", (None,), 1), ("near",), (None, (None,)),
                 ("abcdefghi", (1,)), (b"near", (1,))]
        for thing in [*wrong, *odd_things()]:
            for call in self.calls:
                self.assertRaises(NoPattern, call, S, BOOK, (), T, thing)
            self.assertRaises(NoPattern, better, S, BOOK, T, thing, 1)
        for thing in (("near", (None,) * 5), ("a", ("",)), ("abcdefgh", (-10 ** 39,))):
            answer(S, BOOK, (), T, thing)

    def test_plans_of_other_books(self):
        for call in self.calls:
            self.assertRaises(NoPlan, call, S, BOOK, (("three", (), (0,)),), T, QUESTION)
            self.assertRaises(NoPlan, call, S, BOOK, (("one", (), (1,)),), T, QUESTION)

    def test_nothing_is_changed_and_equal_calls_are_equal(self):
        told = closed_lot(S, BOOK, (), T, QUESTION)
        for call, given in ((answer, ()), (closed_lot, ()), (is_closed, (told,)), (trace, (told,)), (seeks, ())):
            first = unchanged(self, call, S, BOOK, (), T, QUESTION, *given)
            book, tables = dict(reversed(BOOK.items())), dict(reversed(T.items()))
            self.assertEqual(call(S, book, (), tables, QUESTION, *given), first)
        unchanged(self, better, S, BOOK, T, QUESTION, 9)

    def test_heights_do_not_hang_on_the_order_of_dicts(self):
        for _, book, plan, tables, question in cases(40):
            turned, back = dict(reversed(book.items())), dict(reversed(tables.items()))
            self.assertEqual(lot_for(turned, plan, back, question), lot_for(book, plan, tables, question))
            self.assertEqual(lot_of(question), tuple(at for at in range(len(question[1])) if question[1][at] is not None))
