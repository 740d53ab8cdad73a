"""Points 1.4 and 1.5: States, their merge, tables and titles."""

import unittest

from shownviews.errors import NoDeed, NoEdit, NoLife, NoSchema, NotYet, OtherSchema
from shownviews.edits import both, is_edit
from shownviews.states import State, joined, next_edit, tables, titles, with_edit
from tests.helpers import (FAR, NEAR, S, chances, odd_things, random_edits, saw, slow_state, some_order, state_from,
                           told_by, unchanged)

AB = ("link", ("a", "b"))
BRING = ("bring", *AB)
DROP = ("drop", *AB)


def heard(edits, mark):
    """The State of the edits for which a mark stands."""
    return state_from([edit for edit in edits if saw(mark, edit[0], edit[1])])


class Merge(unittest.TestCase):
    def test_without_edits(self):
        state = State(S)
        self.assertEqual((state.schema, told_by(state)), (S, ((), 0, {}, {}, {}, {})))
        self.assertEqual(tables(state), {"link": (), "name": (), "stock": ()})
        self.assertEqual(titles(state), {})

    def test_every_order_leads_to_one_state_by_the_definitions(self):
        for chance in chances(80):
            edits = random_edits(chance, [1, 2, 7, 999][:chance.randrange(1, 5)], chance.randrange(25))
            first = state_from(edits)
            self.assertEqual(told_by(first), slow_state(S, edits))
            for _ in range(3):
                other = state_from(some_order(chance, edits))
                self.assertEqual(other, first)
                self.assertEqual(told_by(other), told_by(first))

    def test_unlike_lots_lead_to_unlike_states(self):
        for chance in chances(40):
            edits = random_edits(chance, [1, 2, 3], 12)
            state = State(S)
            for edit in edits:
                more = with_edit(state, edit)
                self.assertFalse(more == state)
                self.assertTrue(more != state)
                state = more

    def test_mark_and_height(self):
        state = with_edit(State(S), (7, 1, 9, (), BRING))
        state = with_edit(state, (3, 1, 4, (), BRING))
        state = with_edit(state, (7, 2, 10, ((7, 1),), DROP))
        self.assertEqual((state.mark, state.height), (((3, 1), (7, 2)), 10))

    def test_an_edit_that_is_there_already_changes_nothing(self):
        state = with_edit(with_edit(State(S), (7, 1, 1, (), BRING)), (7, 2, 2, ((7, 1),), DROP))
        for edit in ((7, 1, 1, (), BRING), (7, 1, 99, ((5, 5),), ("unrule", "one")),
                     (7, 2, 50, ((7, 1), (8, 4)), BRING)):
            self.assertIs(with_edit(state, edit), state)
        self.assertRaises(NoEdit, with_edit, state, (7, 1, 1, (), None))
        self.assertRaises(NoEdit, with_edit, state, (7, 2, 1, (), BRING))

    def test_elder_states_stay_as_they_were(self):
        for chance in chances(10):
            edits = random_edits(chance, [1, 2, 3], 20)
            states = [State(S)]
            for edit in edits:
                states.append(with_edit(states[-1], edit))
            for one in states:
                joined(one, states[-1])
            for many, one in enumerate(states):
                self.assertEqual(told_by(one), slow_state(S, edits[:many]))

    def test_not_yet_tells_just_what_lacks(self):
        state = with_edit(State(S), (7, 1, 1, (), BRING))
        with self.assertRaises(NotYet) as caught:
            with_edit(state, (7, 3, 9, ((7, 2), (8, 4)), BRING))
        self.assertEqual(caught.exception.lacking, ((7, 2, 2), (8, 1, 4)))
        with self.assertRaises(NotYet) as caught:
            with_edit(state, (9, 1, 9, ((7, 3),), BRING))
        self.assertEqual(caught.exception.lacking, ((7, 2, 3),))
        self.assertEqual(told_by(state), slow_state(S, [(7, 1, 1, (), BRING)]))

    def test_what_is_told_is_new_each_time(self):
        edits = [(7, 1, 1, (), BRING), (7, 2, 2, ((7, 1),), ("put", "name", ("k", "v"))),
                 (7, 3, 3, ((7, 2),), ("add", "stock", ("x",), 3)), (7, 4, 4, ((7, 3),), ("rule", "one", NEAR))]
        state = state_from(edits)
        for call in (state.cells, state.sums, state.bags, state.rules, lambda: tables(state), lambda: titles(state)):
            told = call()
            self.assertIs(type(told), dict)
            told.clear()
            told["x"] = 1
            self.assertNotEqual(call(), told)
        self.assertEqual(told_by(state), slow_state(S, edits))


class Kinds(unittest.TestCase):
    def test_cells_put_and_taken_at_one_height(self):
        put = (2, 1, 5, (), ("put", "name", ("k", "v")))
        for life, rest in ((1, ("v",)), (3, None)):
            take = (life, 1, 5, (), ("take", "name", ("k",)))
            for edits in ([put, take], [take, put]):
                state = state_from(edits)
                self.assertEqual(state.cells(), {("name", ("k",)): (5, max(life, 2), rest)})
                self.assertEqual(tables(state)["name"], () if rest is None else (("k", "v"),))

    def test_the_greatest_height_counts_whatever_comes_last(self):
        state = state_from([(9, 1, 3, (), ("put", "name", ("k", "old"))), (1, 1, 8, (), ("put", "name", ("k", "new"))),
                            (8, 1, 7, (), ("take", "name", ("k",)))])
        self.assertEqual(state.cells(), {("name", ("k",)): (8, 1, ("new",))})

    def test_a_take_stands_also_of_what_was_never_put(self):
        state = state_from([(1, 1, 1, (), ("take", "name", ("k",)))])
        self.assertEqual(state.cells(), {("name", ("k",)): (1, 1, None)})

    def test_keys_and_rests_of_other_lengths(self):
        schema = (("all", 0, ("word", "number")), ("sum", "sum", ("number",)), ("two", 2, ("word", "word", "number")))
        state = State(schema)
        for deed in (("put", "all", ("a", 1)), ("put", "all", ("b", 2)), ("put", "two", ("a", "b", 3)),
                     ("add", "sum", (), 4), ("put", "two", ("a", "a", -3))):
            state = with_edit(state, next_edit(state, 1, deed))
        self.assertEqual(state.cells(), {("all", ()): (2, 1, ("b", 2)), ("two", ("a", "b")): (3, 1, (3,)),
                                         ("two", ("a", "a")): (5, 1, (-3,))})
        self.assertEqual(state.sums(), {("sum", (), 1): 4})
        self.assertEqual(tables(state), {"all": (("b", 2),), "sum": ((4,),), "two": (("a", "a", -3), ("a", "b", 3))})

    def test_a_row_of_a_bag_brought_again_by_who_heard_of_it(self):
        first = (1, 1, 1, (), BRING)
        drop = (2, 1, 2, ((1, 1),), DROP)
        again = (3, 1, 3, ((1, 1), (2, 1)), BRING)
        self.assertEqual(state_from([first]).bags(), {AB: ((1, 1),)})
        self.assertEqual(state_from([first, drop]).bags(), {})
        self.assertEqual(state_from([first, drop, again]).bags(), {AB: ((3, 1),)})

    def test_a_drop_takes_out_only_the_brings_that_it_saw(self):
        first = (1, 1, 1, (), BRING)
        unheard = (3, 1, 1, (), BRING)
        drop = (2, 1, 2, ((1, 1),), DROP)
        for edits in ([first, unheard, drop], [unheard, first, drop], [first, drop, unheard]):
            self.assertEqual(state_from(edits).bags(), {AB: ((3, 1),)})
        self.assertEqual(state_from([first, unheard]).bags(), {AB: ((1, 1), (3, 1))})
        other = (2, 1, 2, ((1, 1),), ("drop", "link", ("a", "c")))
        self.assertEqual(state_from([first, other]).bags(), {AB: ((1, 1),)})

    def test_sums_by_life(self):
        great = 10 ** 20 - 1
        edits = [(1, 1, 1, (), ("add", "stock", ("x",), great)), (1, 2, 2, ((1, 1),), ("add", "stock", ("x",), great)),
                 (2, 1, 1, (), ("add", "stock", ("x",), 1)), (2, 2, 2, ((2, 1),), ("add", "stock", ("y",), 5))]
        state = state_from(edits)
        told = {("stock", ("x",), 1): 2 * great, ("stock", ("x",), 2): 1, ("stock", ("y",), 2): 5}
        self.assertEqual(state.sums(), told)
        self.assertEqual(tables(state)["stock"], (("x", 2 * great + 1), ("y", 5)))

    def test_sums_that_come_to_nothing(self):
        own = state_from([(1, 1, 1, (), ("add", "stock", ("x",), 3)),
                          (1, 2, 2, ((1, 1),), ("add", "stock", ("x",), -3))])
        self.assertEqual(own.sums(), {("stock", ("x",), 1): 0})
        self.assertEqual(tables(own)["stock"], ())
        over = state_from([(1, 1, 1, (), ("add", "stock", ("x",), 3)), (2, 1, 1, (), ("add", "stock", ("x",), -3))])
        self.assertEqual(over.sums(), {("stock", ("x",), 1): 3, ("stock", ("x",), 2): -3})
        self.assertEqual(tables(over)["stock"], ())

    def test_rules_put_and_taken_back(self):
        edits = [(1, 1, 1, (), ("rule", "one", NEAR)), (2, 1, 2, (), ("unrule", "one")),
                 (3, 1, 2, (), ("rule", "two", FAR)), (1, 2, 3, ((1, 1),), ("rule", "rule", FAR))]
        state = state_from(edits)
        self.assertEqual(state.rules(), {"one": (2, 2, None), "two": (2, 3, FAR), "rule": (3, 1, FAR)})
        self.assertEqual(titles(state), {"two": FAR, "rule": FAR})


class Joined(unittest.TestCase):
    def parts(self, chance):
        """Edits, and three States of some of them, each with all that they saw."""
        edits = random_edits(chance, [1, 2, 3, 4], 25)
        marks = []
        for _ in range(3):
            mark = ()
            for life, number, _, seen, _ in chance.sample(edits, 3):
                mark = both(both(mark, seen), ((life, number),))
            marks.append(mark)
        return edits, marks

    def test_it_is_the_state_of_the_edits_of_both(self):
        for chance in chances(60):
            edits, (one, other, third) = self.parts(chance)
            told = joined(heard(edits, one), heard(edits, other))
            self.assertEqual(told, heard(edits, both(one, other)))
            self.assertEqual(told_by(told), told_by(heard(edits, both(one, other))))
            self.assertEqual(told, joined(heard(edits, other), heard(edits, one)))
            self.assertEqual(joined(told, heard(edits, third)),
                             joined(heard(edits, one), joined(heard(edits, other), heard(edits, third))))

    def test_with_itself_with_nothing_with_a_part(self):
        for chance in chances(15):
            edits, (one, _, _) = self.parts(chance)
            state = state_from(edits)
            for other in (state, State(S), heard(edits, one), joined(state, heard(edits, one))):
                self.assertEqual(joined(state, other), state)
                self.assertEqual(joined(other, state), state)
        self.assertEqual(joined(State(S), State(S)), State(S))

    def test_it_takes_further_edits_like_any(self):
        for chance in chances(40):
            edits, (one, other, _) = self.parts(chance)
            told = joined(heard(edits, one), heard(edits, other))
            for edit in edits:
                told = with_edit(told, edit)
            self.assertEqual(told, state_from(edits))

    def test_a_bring_that_the_other_one_saw_dropped_goes(self):
        edits = [(1, 1, 1, (), BRING), (2, 1, 2, ((1, 1),), DROP), (3, 1, 1, (), BRING)]
        self.assertEqual(joined(state_from(edits[:1]), state_from(edits[:2])).bags(), {})
        self.assertEqual(joined(state_from([edits[0], edits[2]]), state_from(edits[:2])).bags(), {AB: ((3, 1),)})

    def test_of_a_life_the_sums_of_who_has_more_of_it(self):
        first = (1, 1, 1, (), ("add", "stock", ("x",), 3))
        second = (1, 2, 2, ((1, 1),), ("add", "stock", ("y",), 4))
        other = (2, 1, 1, (), ("add", "stock", ("x",), 5))
        told = joined(state_from([first, second]), state_from([other, first]))
        self.assertEqual(told.sums(), {("stock", ("x",), 1): 3, ("stock", ("y",), 1): 4, ("stock", ("x",), 2): 5})

    def test_other_schema(self):
        self.assertRaises(OtherSchema, joined, State(S), State(S[:2]))
        self.assertRaises(OtherSchema, joined, State(S[1:]), State(S))
        for thing in (None, 1, (), {}, S, "x"):
            self.assertRaises(OtherSchema, joined, State(S), thing)
            self.assertRaises(OtherSchema, joined, thing, State(S))


class Equality(unittest.TestCase):
    def test_equal_to_nothing_else(self):
        for thing in odd_things()[:60]:
            if not isinstance(thing, State):
                self.assertFalse(State(S) == thing)
                self.assertFalse(thing == State(S))
                self.assertTrue(State(S) != thing)

    def test_of_unlike_schemas(self):
        self.assertFalse(State(S) == State(S[:2]))
        self.assertTrue(State(S) == State(S))

    def test_each_part_counts(self):
        first = (1, 1, 1, (), BRING)
        base = state_from([first])
        for other in ((1, 1, 2, (), BRING), (2, 1, 1, (), BRING), (1, 1, 1, (), DROP),
                      (1, 1, 1, (), ("add", "stock", ("x",), 1)), (1, 1, 1, (), ("rule", "one", NEAR)),
                      (1, 1, 1, (), ("take", "name", ("x",)))):
            self.assertFalse(base == state_from([other]))
        self.assertTrue(base == state_from([first]))

    def test_each_part_counts_where_all_others_are_alike(self):
        pairs = [(("put", "name", ("k", "v")), ("put", "name", ("k", "w"))),
                 (("put", "name", ("k", "v")), ("take", "name", ("k",))),
                 (("add", "stock", ("x",), 1), ("add", "stock", ("x",), 2)),
                 (("bring", "link", ("a", "b")), ("bring", "link", ("a", "c"))),
                 (("rule", "one", NEAR), ("rule", "one", FAR)), (("rule", "one", NEAR), ("unrule", "one"))]
        for deed, other in pairs:
            self.assertFalse(state_from([(1, 1, 1, (), deed)]) == state_from([(1, 1, 1, (), other)]))
            self.assertTrue(state_from([(1, 1, 1, (), deed)]) == state_from([(1, 1, 1, (), deed)]))
        drop = ("drop", "link", ("a", "b"))
        self.assertFalse(state_from([(1, 1, 1, (), drop)]) == state_from([(1, 1, 2, (), drop)]))
        self.assertFalse(state_from([(1, 1, 1, (), drop)]) == state_from([(2, 1, 1, (), drop)]))


class Errors(unittest.TestCase):
    def test_no_schema(self):
        for thing in [*odd_things(), list(S), S[::-1]]:
            self.assertRaises(NoSchema, State, thing)

    def test_no_edit(self):
        for thing in [*odd_things(), (7, 1, 1, (), ("bring", "name", ("a", "b"))), [7, 1, 1, (), BRING]]:
            self.assertRaises(NoEdit, with_edit, State(S), thing)
        self.assertRaises(NoEdit, with_edit, State(S), (7, 3, 9, ((7, 1),), BRING))

    def test_no_life_then_no_deed(self):
        for thing in [*odd_things()[:70], 0, 1000, -1, True]:
            if thing is not True and thing == 1:
                continue
            self.assertRaises(NoLife, next_edit, State(S), thing, None)
        for thing in [*odd_things()[:70], ("bring", "name", ("a", "b")), list(BRING)]:
            self.assertRaises(NoDeed, next_edit, State(S), 7, thing)

    def test_next_edits(self):
        state = state_from([(7, 1, 4, (), BRING), (9, 1, 6, (), BRING)])
        self.assertEqual(next_edit(state, 7, DROP), (7, 2, 7, ((7, 1), (9, 1)), DROP))
        self.assertEqual(next_edit(state, 8, DROP), (8, 1, 7, ((7, 1), (9, 1)), DROP))
        self.assertEqual(next_edit(State(S), 999, BRING), (999, 1, 1, (), BRING))
        self.assertTrue(is_edit(S, next_edit(state, 7, DROP)))

    def test_nothing_is_changed(self):
        state = state_from([(7, 1, 4, (), BRING)])
        unchanged(self, with_edit, state, (7, 2, 5, ((7, 1),), DROP))
        unchanged(self, next_edit, state, 7, DROP)
        unchanged(self, joined, state, State(S))
        unchanged(self, tables, state)
        unchanged(self, titles, state)


class Tables(unittest.TestCase):
    def test_rows_ascending_each_once(self):
        state = State(S)
        rows = [("b", "a"), ("a", "c"), ("a", "b"), ("b", "a"), ("", "z"), ("B", "z")]
        for row in rows:
            state = with_edit(state, next_edit(state, 1, ("bring", "link", row)))
        self.assertEqual(tables(state)["link"], (("", "z"), ("B", "z"), ("a", "b"), ("a", "c"), ("b", "a")))
        state = State((("n", "bag", ("number",)),))
        for number in (10, 9, -1, -10, 9):
            state = with_edit(state, next_edit(state, 1, ("bring", "n", (number,))))
        self.assertEqual(tables(state), {"n": ((-10,), (-1,), (9,), (10,))})

    def test_what_was_taken_is_not_there(self):
        state = State(S)
        for deed in (("put", "name", ("k", "v")), ("put", "name", ("a", "w")), ("take", "name", ("k",)),
                     ("rule", "one", NEAR), ("rule", "two", FAR), ("unrule", "one")):
            state = with_edit(state, next_edit(state, 1, deed))
        self.assertEqual(tables(state), {"link": (), "name": (("a", "w"),), "stock": ()})
        self.assertEqual(titles(state), {"two": FAR})
