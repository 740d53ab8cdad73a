"""Points 4.1 and 4.3: views, kept by changes of facts and rules."""

import unittest

from shownviews.books import bar
from shownviews.errors import Barred, NoBook, NoFacts, NoName, NoRule, NoSchema, NoTables, NoView
from shownviews.meanings import meaning
from shownviews.nears import near
from shownviews.views import View, view_of, view_state
from tests.helpers import (ANY, FAR, NEAR, S, T, chances, odd_things, order_of, parts_put_otherwise, random_tables,
                           rich_book, rule, sort_of, unchanged, v)
from tests.slowly import changed

X, Y, Z = v(0), v(1), v(2)
BOOK = {"one": NEAR, "two": FAR}
NAMES = {"link": 2, "stock": 2, "name": 2, "p": 1, "q": 2, "r": 1, "s": 2, "none": 1}


def facts_of(rows):
    return {(name, row) for name in rows for row in rows[name]}


def ascending(facts):
    return tuple(sorted(facts, key=lambda fact: (fact[0], [order_of(worth) for worth in fact[1]])))


def random_change(chance, tables):
    """Some facts that are there, and some that are not, as lists or tuples."""
    there = ascending(facts_of(tables))
    more = ascending(facts_of(random_tables(chance)) - set(there))
    gone = [fact for fact in there if chance.random() < 0.25]
    come = [fact for fact in more if chance.random() < 0.4]
    chance.shuffle(gone)
    chance.shuffle(come)
    return (gone, come) if chance.random() < 0.5 else (tuple(gone), tuple(come))


def random_rule(chance, book):
    """A name and a rule, or None, some of them by which names get a bar."""
    other = rich_book(chance, NAMES, list("pqrs"))
    title = chance.choice(sorted({*book, *other}))
    if chance.random() < 0.3:
        return title, None
    if chance.random() < 0.2:
        return title, chance.choice([rule("p", [X], ("not", "q", (X, X)), ("is", "q", (X, ANY))), rule("q", [X, Y], (
            "is", "p", (X,))), rule("s", [X], ("is", "link", (X, ANY)))])
    return title, other.get(title, NEAR)


class Views(unittest.TestCase):
    def kept(self, view, book, tables):
        """Compares all that a View tells with the meaning anew."""
        self.assertEqual(view.tables(), tables)
        self.assertEqual(view.book(), book)
        meant = meaning(S, book, tables)
        for name in [*NAMES, "near", "rule"]:
            why = bar(S, book, name)
            if why is None:
                self.assertEqual(view.rows(name), tables.get(name, meant.get(name, ())))
            else:
                with self.assertRaises(Barred) as caught:
                    view.rows(name)
                self.assertEqual(caught.exception.bar, why)
        return meant

    def told(self, told, ahead, behind):
        """Compares what is told of a change with the meanings ahead and behind."""
        ahead, behind = facts_of(ahead), facts_of(behind)
        self.assertEqual(told, (ascending(ahead - behind), ascending(behind - ahead)))

    def test_a_small_one(self):
        view = View(S, BOOK, T)
        self.assertEqual(view.rows("near"), (("a", "b"), ("a", "c"), ("b", "c")))
        self.assertEqual(view.looks(), 0)
        self.assertEqual(view.change([("link", ("a", "b"))], [("link", ("c", "a"))]),
                         ((("near", ("a", "b")), ("near", ("a", "c"))), (("near", ("b", "a")), ("near", ("c", "a")))))
        self.assertEqual(view.rows("link"), (("b", "c"), ("c", "a")))
        self.assertEqual(view.rows("name"), ())
        self.assertEqual(view.change((), []), ((), ()))

    def test_rows_that_hold_up_one_another_go(self):
        tables = {**T, "link": (("a", "b"), ("b", "c"), ("c", "b"))}
        view = View(S, {"a": rule("x", ["a"], ("is", "link", (ANY, ANY))), "b": rule("x", [Y], (
            "is", "x", (X,)), ("is", "link", (X, Y)))}, tables)
        self.assertEqual(view.rows("x"), (("a",), ("b",), ("c",)))
        self.assertEqual(view.change([("link", ("a", "b"))], []), ((("x", ("b",)), ("x", ("c",))), ()))
        self.assertEqual(view.change([], [("link", ("a", "c"))]), ((), (("x", ("b",)), ("x", ("c",)))))

    def test_rows_that_other_rules_give_stay(self):
        book = {"a": rule("x", [X], ("is", "link", (X, ANY))), "b": rule("x", [X], ("is", "name", (X, ANY))),
                "c": rule("y", [X], ("is", "x", (X,)))}
        view = View(S, book, {**T, "name": (("a", "z"),)})
        self.assertEqual(view.change([("name", ("a", "z"))], ()), ((), ()))
        self.assertEqual(view.change([("link", ("a", "b"))], [("name", ("a", "q"))]), ((), ()))
        self.assertEqual(view.change([("name", ("a", "q"))], ()), ((("x", ("a",)), ("y", ("a",))), ()))

    def test_counts_and_not(self):
        book = {"a": rule("x", [X], ("many", 0, "link", (ANY, ANY))), "b": rule("y", [X], ("sum", 0, "stock", (ANY, ANY), 1)),
                "c": rule("z", [X], ("is", "link", (X, ANY)), ("not", "x", (3,))),
                "d": rule("w", [X, Y], ("least", 0, "link", (ANY, ANY), 1), ("greatest", 1, "x", (ANY,), 0))}
        view = View(S, book, T)
        self.assertEqual([view.rows(name) for name in "xyzw"], [((2,),), ((0,),), (("a",), ("b",)), (("b", 2),)])
        self.assertEqual(view.change((), [("link", ("c", "a")), ("stock", ("s", 10 ** 30))]), (
            (("w", ("b", 2)), ("x", (2,)), ("y", (0,)), ("z", ("a",)), ("z", ("b",))),
            (("w", ("a", 3)), ("x", (3,)), ("y", (10 ** 30,)))))
        self.assertEqual(view.change([("link", ("a", "b")), ("link", ("b", "c")), ("link", ("c", "a"))], ()), (
            (("w", ("a", 3)), ("x", (3,))), (("x", (0,)),)))

    def test_conditions_that_wait_for_one_another(self):
        book = {"a": rule("x", [X, v(3)], ("less", v(3), 9), ("not", "name", ("a", v(4))), ("sum", 3, "stock", (v(4), ANY), 1),
                          ("greatest", 4, "y", (v(5), ANY), 1), ("least", 5, "y", (ANY, ANY), 0), ("is", "y", (X, ANY))),
                "b": rule("y", [X, Y], ("is", "link", (X, Y)), ("unlike", X, Y)),
                "c": rule("z", [X], ("same", 1, X), ("many", 0, "x", (ANY, ANY)))}
        tables = {**T, "stock": (("b", 3), ("c", 7))}
        view = View(S, book, tables)
        ahead = self.kept(view, book, tables)
        self.assertEqual(ahead["x"], (("a", 3), ("b", 3)))
        for gone, come in (([("link", ("b", "c"))], []), ([("stock", ("b", 3))], [("stock", ("b", 8))]),
                           ([], [("name", ("a", "b"))]), ([("name", ("a", "b"))], []), ([], [("link", ("a", "c"))]),
                           ([], [("name", ("a", "c"))]), ([("stock", ("b", 8)), ("name", ("a", "c"))], []),
                           ([("link", ("a", "b")), ("link", ("a", "c"))], [("link", ("0", "b")), ("stock", ("b", -1))])):
            told = view.change(gone, come)
            tables = changed(tables, gone, come)
            behind = self.kept(view, book, tables)
            self.told(told, ahead, behind)
            ahead = behind

    def test_a_change_reads_no_whole_table(self):
        """By which patterns rows are found at once is made ready ahead of all changes."""
        book = {**BOOK, "c": rule("x", [X], ("is", "link", (X, Y)), ("is", "name", (Y, Z)), ("is", "stock", (Z, ANY)),
                                  ("not", "near", (Z, "q")), ("many", 3, "near", (X, ANY)), ("less", v(3), 9))}
        view = View(S, book, {name: () for name in T})
        ahead = self.kinds(view)
        facts = [("link", ("a", "b")), ("name", ("b", "c")), ("stock", ("c", 1)), ("link", ("c", "d"))]
        self.assertEqual(view.change([], facts)[1][-1], ("x", ("a",)))
        view.change(facts[:1], [("link", ("c", "q"))])
        self.assertEqual(self.kinds(view), ahead)
        for chance in chances(40):
            tables = random_tables(chance)
            view = View(S, rich_book(chance, NAMES, list("pqrs")), tables)
            ahead = self.kinds(view)
            for _ in range(4):
                change = random_change(chance, view.tables())
                view.change(*change)
                self.assertEqual(self.kinds(view), ahead)

    def kinds(self, view):
        return {name: sorted(kinds) for name, kinds in view._relations._found.items()}

    def test_lives_by_chance(self):
        grown = {"gone": 0, "come": 0, "ruled": 0}
        for chance in chances(110):
            book, tables = rich_book(chance, NAMES, list("pqrs")), random_tables(chance)
            if chance.random() < 0.5:
                book["qz"] = rule("s", [X, Z], ("is", "link", (Y, Z)), ("is", "s", (X, Y)))
            view = View(S, book, tables)
            ahead = self.kept(view, book, tables)
            for _ in range(8):
                looks = view.looks()
                if chance.random() < 0.75:
                    gone, come = random_change(chance, tables)
                    touched = near(S, book, tables, gone, come)
                    told = view.change(gone, come)
                    tables = changed(tables, gone, come)
                    many = sum(len(part) for part in (gone, come, *told))
                    self.assertLessEqual(many, view.looks() - looks)
                    self.assertLessEqual(view.looks() - looks, 20 * (1 + sum(touched)))
                    grown["gone"] += len(told[0])
                    grown["come"] += len(told[1])
                else:
                    title, one = random_rule(chance, book)
                    told = view.rule(title, one)
                    book = {name: book[name] for name in book if name != title}
                    book.update({title: one} if one is not None else {})
                    grown["ruled"] += len(told[0]) + len(told[1])
                    self.assertLessEqual(len(told[0]) + len(told[1]), view.looks() - looks)
                behind = self.kept(view, book, tables)
                self.told(told, ahead, behind)
                ahead = behind
        self.assertGreater(min(grown.values()), 300, grown)

    def test_rules_that_come_and_go(self):
        view = View(S, {}, T)
        self.assertEqual(view.rows("near"), ())
        self.assertEqual(view.rule("one", NEAR), ((), (("near", ("a", "b")), ("near", ("b", "c")))))
        self.assertEqual(view.rule("two", FAR), ((), (("near", ("a", "c")),)))
        self.assertEqual(view.rule("one", NEAR), ((), ()))
        self.assertEqual(view.rule("none", None), ((), ()))
        self.assertEqual(view.rule("one", None), ((("near", ("a", "b")), ("near", ("a", "c")), ("near", ("b", "c"))), ()))
        self.assertEqual(view.book(), {"two": FAR})
        self.assertEqual(view.rule("two", rule("x", [X], ("is", "link", (X, ANY)))), ((), (("x", ("a",)), ("x", ("b",)))))
        self.assertEqual(view.rule("two", NEAR), (
            (("x", ("a",)), ("x", ("b",))), (("near", ("a", "b")), ("near", ("b", "c")))))

    def test_bars_that_come_and_go(self):
        view = View(S, {**BOOK, "c": rule("x", [X], ("is", "near", (X, "c")))}, T)
        whole = (("near", ("a", "b")), ("near", ("a", "c")), ("near", ("b", "c")), ("x", ("a",)), ("x", ("b",)))
        for one in (rule("near", [X], ("is", "link", (X, ANY))), rule("near", [X, Y], ("is", "link", (X, ANY))),
                    rule("near", [X, X], ("is", "link", (X, ANY)), ("not", "x", (X,)))):
            self.assertEqual(view.rule("bad", one), (whole, ()))
            self.assertRaises(Barred, view.rows, "near")
            self.assertRaises(Barred, view.rows, "x")
            self.assertEqual(view.rows("link"), T["link"])
            self.assertEqual(view.change([("link", ("a", "b"))], []), ((), ()))
            self.assertEqual(view.change([], [("link", ("a", "b"))]), ((), ()))
            self.assertEqual(view.rule("bad", None), ((), whole))

    def test_what_is_handed_in_may_be_emptied(self):
        book, tables = dict(BOOK), dict(T)
        view = View(S, book, tables)
        book.clear()
        tables.clear()
        self.kept(view, BOOK, T)
        for told in (view.book(), view.tables()):
            told.clear()
        gone, come = [("link", ("a", "b"))], [("link", ("c", "d"))]
        view.change(gone, come)
        gone.clear()
        come.clear()
        behind = {**T, "link": (("b", "c"), ("c", "d"))}
        self.kept(view, BOOK, behind)
        view.change(tuple(come), [("name", ("a", "b"))])
        self.kept(view, BOOK, {**behind, "name": (("a", "b"),)})

    def test_a_view_is_equal_to_itself_alone(self):
        view = View(S, BOOK, T)
        self.assertTrue(view == view)
        self.assertFalse(view == View(S, BOOK, T))

    def test_reading_is_no_look(self):
        view = View(S, BOOK, T)
        view.change([], [("link", ("c", "d"))])
        looks = view.looks()
        self.assertGreater(looks, 0)
        view.rows("near"), view.tables(), view.book(), view_state(view)
        self.assertEqual(view.looks(), looks)


class Looks(unittest.TestCase):
    def test_large_tables_of_which_little_is_touched(self):
        names = [f"w{at:04}" for at in range(1500)]
        tables = {**T, "link": tuple(zip(names[::3], names[1::3])), "name": tuple(zip(names, names[1:]))}
        book = {**BOOK, "c": rule("x", [X, Z], ("is", "near", (X, Y)), ("is", "name", (Y, Z)), ("not", "link", (Z, X))),
                "d": rule("y", [X, Y], ("is", "x", (X, ANY)), ("many", 1, "near", (X, ANY)))}
        view = View(S, book, tables)
        for gone, come in (([("link", (names[0], names[1]))], []), ([], [("link", (names[1], names[3]))]),
                           ([("name", (names[7], names[8]))], [("link", (names[0], names[1]))])):
            looks = view.looks()
            bound = 20 * (1 + sum(near(S, book, view.tables(), gone, come)))
            view.change(gone, come)
            self.assertLessEqual(view.looks() - looks, bound)
            self.assertLess(view.looks() - looks, 120)
        self.assertEqual(meaning(S, book, view.tables())["y"], view.rows("y"))

    def test_many_rules_round_which_nothing_stands(self):
        book = {"r" + "abcdefghij"[at // 10] + "abcdefghij"[at % 10]: rule("x", [X, Y], ("is", "link", (X, Y)), (
            "unlike", X, Y), ("less", at, 1000)) for at in range(100)}
        view = View(S, book, T)
        for gone, come in (([("link", ("a", "b"))], []), ([], [("link", ("a", "a")), ("link", ("a", "b"))]),
                           ([("link", ("a", "a"))], [])):
            looks = view.looks()
            bound = 20 * (1 + sum(near(S, book, view.tables(), gone, come)))
            told = view.change(gone, come)
            self.assertLessEqual(view.looks() - looks, bound)
            self.assertGreaterEqual(view.looks() - looks, len(gone) + len(come) + len(told[0]) + len(told[1]))

    def test_conditions_in_a_bad_order(self):
        # By their numbers the conditions go through much that is not needed; the bound lets just that.
        tables = {**T, "name": tuple((a + b, a) for a in "abcdefgh" for b in "xyz"), "stock": (("a", 1), ("b", 5))}
        book = {"a": rule("x", [X, Y], ("is", "name", (Y, Z)), ("is", "stock", (Z, ANY)), ("is", "link", (X, Z)),
                          ("less", Y, X)),
                "b": rule("y", [X], ("is", "x", (ANY, X)), ("greatest", 1, "name", (ANY, ANY), 0), ("unlike", v(1), X))}
        view = View(S, book, tables)
        for gone, come in (([("link", ("a", "b"))], [("link", ("z", "b")), ("link", ("z", "a"))]),
                           ([("stock", ("a", 1))], [("stock", ("a", 2))]), ([("name", ("ax", "a"))], [])):
            looks = view.looks()
            bound = 20 * (1 + sum(near(S, book, view.tables(), gone, come)))
            view.change(gone, come)
            self.assertLessEqual(view.looks() - looks, bound)


class States(unittest.TestCase):
    def test_a_small_one(self):
        told = view_state(View(S, {"two": FAR, "one": NEAR}, T))
        self.assertEqual(told, ((("one", NEAR), ("two", FAR)), (("link", T["link"]), ("name", ()), ("stock", ())),
                                (("near", (("a", "b"), ("a", "c"), ("b", "c"))),)))
        bad = {**BOOK, "bad": rule("x", [1], ("not", "x", (1,))), "c": rule("a", [X], ("is", "link", (X, ANY)))}
        self.assertEqual([name for name, _ in view_state(View(S, bad, T))[2]], ["a", "near"])
        self.assertEqual(view_state(View(S, {}, T))[::2], ((), ()))

    def test_lives_go_on_alike_and_apart(self):
        for chance in chances(30):
            book, tables = rich_book(chance, NAMES, list("pqrs")), random_tables(chance)
            view = View(S, book, tables)
            view.change(*random_change(chance, tables))
            other = view_of(S, view_state(view))
            self.assertEqual(other.looks(), 0)
            self.assertEqual(view_state(other), view_state(view))
            for _ in range(3):
                change = random_change(chance, view.tables())
                self.assertEqual(other.change(*change), view.change(*change))
                title, one = random_rule(chance, view.book())
                self.assertEqual(other.rule(title, one), view.rule(title, one))
                self.assertEqual(view_state(other), view_state(view))
            kept = view_state(view)
            other.change(*random_change(chance, other.tables()))
            other.rule("qa", None)
            self.assertEqual(view_state(view), kept)

    def no_view(self, *things):
        for thing in things:
            self.assertRaises(NoView, view_of, S, thing)

    def test_what_no_view_keeps(self):
        rules, tables, (near_rows,) = view_state(View(S, BOOK, T))
        rows = near_rows[1]
        for found in (rows[:2], rows + (("c", "a"),), rows[::-1], rows + rows[:1], (), list(rows), None,
                      (("a", "b"), ("a", "c"), ["b", "c"])):
            self.no_view((rules, tables, (("near", found),)))
        self.no_view((rules, tables, ()), (rules, tables, (near_rows, near_rows)), (rules, tables, (("x", rows),)),
                     (rules, tables, (near_rows, ("x", ()))), (rules, tables, (list(near_rows),)),
                     (rules[::-1], tables, (near_rows,)), (rules[:1], tables, (near_rows,)),
                     (rules + rules[:1], tables, (near_rows,)), (rules, tables[::-1], (near_rows,)),
                     (rules, tables[:2], (near_rows,)), (rules, tables + (("z", ()),), (near_rows,)),
                     (rules, tables[1:], (near_rows,)), ((("one", NEAR), ("two", None)), tables, (near_rows,)),
                     (dict(rules), tables, (near_rows,)), (rules, dict(tables), (near_rows,)),
                     (rules, (("link", T["link"][::-1]), *tables[1:]), (near_rows,)), [rules, tables, (near_rows,)],
                     (rules, tables), (rules, tables, (near_rows,), ()), (rules, tables, (("near", rows, 1),)))
        view_of(S, (rules, tables, (near_rows,)))

    def test_flags_in_the_place_of_numbers(self):
        told = view_state(View(S, {"one": rule("x", [Y, 1], ("is", "stock", (ANY, Y)))}, {**T, "stock": (("a", 1),)}))
        view_of(S, told)
        seen = 0
        for thing in parts_put_otherwise(told, [True, None, [], "", 1]):
            if thing != told or "True" in repr(thing):
                try:
                    other = view_of(S, thing)
                except NoView:
                    seen += 1
                else:
                    # Some other rule or table may mean the same rows.
                    self.assertEqual(repr(view_state(other)), repr(thing))
        self.assertGreater(seen, 200)

    def test_things_of_all_kinds(self):
        rules, tables, rows = view_state(View(S, BOOK, T))
        for thing in [*odd_things(), View(S, BOOK, T)]:
            self.no_view(thing, (thing, tables, rows), (rules, thing, rows), (rules, tables, thing),
                         (rules, tables, (thing,)), ((thing,), tables, rows), (rules, (thing, *tables[1:]), rows),
                         (rules, (("link", thing), *tables[1:]), rows), (rules, tables, (("near", thing),)),
                         ((("one", thing), rules[1]), tables, rows))


class Errors(unittest.TestCase):
    def test_of_new_views(self):
        self.assertRaises(NoSchema, View, None, None, None)
        self.assertRaises(NoBook, View, S, None, None)
        self.assertRaises(NoTables, View, S, {}, None)
        for thing in [*odd_things(), View(S, BOOK, T)]:
            self.assertRaises(NoSchema, View, thing, BOOK, T)
            if thing != {}:
                self.assertRaises(NoBook, View, S, thing, T)
            self.assertRaises(NoTables, View, S, BOOK, thing)
        unchanged(self, View, S, dict(BOOK), dict(T))

    def unmoved(self, error, call, *given):
        """An error of a call at a View, behind which this is as it was, and so are its looks."""
        view = View(S, BOOK, T)
        view.change([], [("name", ("a", "z"))])
        kept, looks = view_state(view), view.looks()
        self.assertRaises(error, call, view, *given)
        self.assertEqual((view_state(view), view.looks()), (kept, looks))
        self.assertEqual(view.change([("name", ("a", "z"))], []), ((), ()))

    def test_no_facts(self):
        there, not_there = ("link", ("a", "b")), ("link", ("z", "z"))
        for gone, come in (([not_there], []), ([], [there]), ([there, there], []), ([], [not_there, not_there]),
                           ([there], [there]), ([not_there], [not_there]), ([there, not_there], []),
                           ([("near", ("a", "b"))], []), ([], [("near", ("z", "z"))]), ([], [("x", (1,))]),
                           ([], [("rule", ("a", "b"))]), ([], [["link", ("z", "z")]]), ([], [("link", ["z", "z"])]),
                           ([], [("link", ("z",))]), ([], [("link", ("z", "z", "z"))]), ([], [("link", ("z", 1))]),
                           ([], [("stock", ("z", True))]), ([], [("stock", ("z", "1"))]), ([], [("link", ("z", "\n"))]),
                           ([], [("link", ("z", "z"), 1)]), ([], [("link",)]), ([], not_there), (there, []),
                           ({there: 1}, []), ([], {not_there: 1}), (None, []), ([], None), ("", []), ([], "a"),
                           ([there], iter([])), (range(0), []), ([], [("link", ("z", "z")), None])):
            self.unmoved(NoFacts, View.change, gone, come)
        view = View(S, BOOK, T)
        view.change([there], [not_there, ("stock", ("z", 10 ** 39))])
        self.assertEqual(view.rows("stock"), (("z", 10 ** 39),))

    def test_no_facts_of_all_kinds(self):
        view = View(S, BOOK, T)
        for thing in [*odd_things(), view]:
            if thing not in ((), []):
                self.assertRaises(NoFacts, view.change, thing, [])
                self.assertRaises(NoFacts, view.change, [], thing)
            self.assertRaises(NoFacts, view.change, [], [thing])
            for fact in (("link", thing), ("link", ("a", thing)), ("stock", ("a", thing)), (thing, ("a", 1))):
                if not self.is_fact(fact):
                    self.assertRaises(NoFacts, view.change, [], [fact])
                    self.assertRaises(NoFacts, view.change, [fact], [])
        self.assertEqual(view.looks(), 0)

    def is_fact(self, thing):
        """Whether a fact with one of the things of all kinds in it is one of the schema."""
        if type(thing[1]) is not tuple or len(thing[1]) != 2:
            return False
        sorts = [type(worth) is int and "number" or sort_of(worth) for worth in thing[1]]
        return sorts == ["word", "number" if thing[0] == "stock" else "word"]

    def test_names_and_rules(self):
        for thing in [*odd_things(), "", "A", "abcdefghi", "a b", b"a"]:
            if thing not in ("a", "link", "rule"):
                self.unmoved_quick(NoName, "rows", thing)
                self.unmoved_quick(NoName, "rule", thing, None)
                self.unmoved_quick(NoName, "rule", thing, NEAR)
            if thing is not None:
                self.unmoved_quick(NoRule, "rule", "one", thing)
        self.unmoved_quick(NoName, "rule", "", 1)
        self.unmoved_quick(NoRule, "rule", "one", rule("link", [X, Y], ("is", "near", (X, Y))))
        self.unmoved(Barred, lambda view: View(S, {"x": rule("x", [X], ("less", X, 1))}, view.tables()).rows("x"))
        self.unmoved(NoName, View.rule, "ONE", None)
        self.unmoved(NoRule, View.rule, "one", ())

    view = View(S, BOOK, T)

    def unmoved_quick(self, error, method, *given):
        self.assertRaises(error, getattr(self.view, method), *given)
        self.assertEqual(self.view.looks(), 0)

    def test_titles_are_any_names(self):
        view = View(S, {}, T)
        for title in ("rule", "link", "near", "a"):
            view.rule(title, NEAR)
            self.assertEqual(view.book()[title], NEAR)
