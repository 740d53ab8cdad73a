"""Part 0 over the whole program: the first error that is due, equal calls, and what is told being new."""

import copy
import inspect
import itertools
import unittest

from shownviews import (books, desks, disks, edits, houses, lots, meanings, mixing, nears, papers, plans, proofs, roots,
                        rules, ruletexts, schemas,
                        showings, states, stores, texts, things, trees, views, worlds)
from shownviews.errors import (BadDisk, BadText, NoArea, NoBook, NoDeed, NoEdit, NoFact, NoFacts, NoLife, NoLot, NoMark,
                               NoName, NoNumber,
                               NoPattern, NoPlan, NoPrime, NoRoot, NoRow, NoRows, NoRule, NoSchema, NoShowing, NoStore,
                               NoStretch, NoTables, NoText,
                               OtherSchema, ViewError)
from tests.helpers import FAR, NEAR, S, T, odd_things, rule, v

P = 2 ** 61 - 1
BOOK = {"one": NEAR, "two": FAR}
QUESTION = ("near", ("a", None))
EDIT = (7, 1, 1, (), ("bring", "link", ("a", "b")))
STATE = states.with_edit(states.with_edit(states.State(S), EDIT), (7, 2, 2, ((7, 1),), ("rule", "one", NEAR)))
TREE = trees.Tree(P, (("link", ("a", "b")),))
SHOWING = showings.shown(TREE, ())
ANSWER = papers.answer_of(P, STATE, (), QUESTION)
LOT = lots.closed_lot(S, BOOK, (), T, QUESTION)
FACT = ("link", ("c", "d"))

SCHEMA = (S, NoSchema)
A_BOOK = (BOOK, NoBook)
TABLES = (T, NoTables)
NAME = ("near", NoName)
PATTERN = (QUESTION, NoPattern)
PLAN = ((), NoPlan)
PRIME = (P, NoPrime)
ANY = (None, None)

# Each function with its arguments, each as the pair of a good one and of the error of a wrong one, and the order in which
# the errors are due, where it is not that of the arguments.
CALLS = [
    (schemas.is_row, [(S, None), ("link", NoName), ANY], None),
    (edits.holds, [((), NoMark), ((), NoMark)], None), (edits.both, [((), NoMark), ((), NoMark)], None),
         (edits.lacking, [((), NoMark), ((), NoMark)], None),
    (states.State, [SCHEMA], None), (states.with_edit, [(STATE, None), (EDIT, NoEdit)], None),
    (states.next_edit, [(STATE, None), (7, NoLife), (EDIT[4], NoDeed)], None),
         (states.joined, [(STATE, OtherSchema), (STATE, OtherSchema)], None),
    (rules.is_rule, [SCHEMA, ANY], None), (rules.ordered, [([], NoRows)], None),
    (books.bar, [SCHEMA, A_BOOK, NAME], None), (books.layer, [SCHEMA, A_BOOK, NAME], None),
    (meanings.meaning, [SCHEMA, A_BOOK, TABLES], None), (meanings.rounds, [SCHEMA, A_BOOK, TABLES, NAME], (0, 1, 3, 2)),
    (ruletexts.read_rule, [(S, None), ("near(1) if 1 = 1", BadText)], None),
    (proofs.proof, [SCHEMA, A_BOOK, TABLES, NAME, (("a", "b"), NoRow)], (0, 1, 3, 2, 4)),
    (proofs.is_proof, [SCHEMA, A_BOOK, TABLES, NAME, (("a", "b"), NoRow), ANY], (0, 1, 3, 2, 4)),
    (proofs.lacks, [SCHEMA, A_BOOK, TABLES, NAME, (("a", "b"), NoRow)], (0, 1, 3, 2, 4)),
    (plans.is_order, [(NEAR, NoRule), ((), NoLot), ANY], None), (plans.plain_order, [(NEAR, NoRule), ((), NoLot)],
                                                                 None),
    (plans.is_plan, [SCHEMA, A_BOOK, ANY], None),
    (lots.answer, [SCHEMA, A_BOOK, PLAN, TABLES, PATTERN], None), (lots.closed_lot,
                                                                   [SCHEMA, A_BOOK, PLAN, TABLES, PATTERN], None),
    (lots.is_closed, [SCHEMA, A_BOOK, PLAN, TABLES, PATTERN, ANY], None),
         (lots.seeks, [SCHEMA, A_BOOK, PLAN, TABLES, PATTERN], None),
    (lots.trace, [SCHEMA, A_BOOK, PLAN, TABLES, PATTERN, (LOT, None)], None),
         (lots.better, [SCHEMA, A_BOOK, TABLES, PATTERN, (2000, NoNumber)], None),
    (views.View, [SCHEMA, A_BOOK, TABLES], None), (nears.near, [SCHEMA, A_BOOK, TABLES, ([], NoFacts), ([], NoFacts)],
                                                   None),
    (mixing.mix, [PRIME, ("a", NoText)], None), (mixing.number_of, [PRIME, (FACT, NoFact)], None),
         (mixing.fact_text, [(FACT, NoFact)], None),
    (trees.Tree, [PRIME, ((), NoFacts)], None), (trees.with_fact, [(TREE, None), (FACT, NoFact)], None),
    (showings.shown, [(TREE, None), ((), NoStretch)], None), (showings.root_of, [PRIME, (SHOWING, NoShowing)], None),
    (showings.read, [PRIME, ((1, 1), NoRoot), (SHOWING, NoShowing), ((), NoStretch)], None),
    (showings.clash, [PRIME, (SHOWING, NoShowing), (SHOWING, NoShowing)], None),
         (showings.is_clash, [PRIME, ANY], None),
    (roots.tree_of, [PRIME, (STATE, None)], None), (roots.root_number, [PRIME, (STATE, None)], None),
    (disks.Disk, [(2, BadDisk), (200, BadDisk)], None), (disks.record, [(1, NoNumber), ("a", NoText)], None),
         (disks.records, [("a", NoText)], None),
    (disks.Disk(2, 200).put, [(0, NoArea), ("", NoText)], None),
    (texts.read_edit, [SCHEMA, (texts.edit_text(EDIT), NoText)], None),
         (texts.read_state, [SCHEMA, ("- 0", NoText)], None),
    (houses.House, [(7, NoLife), SCHEMA, PRIME, (disks.Disk(2, 200), None)], None),
    (lambda schema, p, disk: houses.house_at(schema, p, disk), [SCHEMA, PRIME, (None, NoStore)], None),
    (houses.House(7, S, P, disks.Disk(2, 20000)).write, [((), NoMark), (EDIT[4], NoDeed)], None),
    (houses.House(7, S, P, disks.Disk(2, 20000)).ask, [((), NoMark), PATTERN], None),
    (worlds.World, [SCHEMA, PRIME, (2, NoNumber), (2, BadDisk), (200, BadDisk)], None),
    (papers.answer_of, [PRIME, (STATE, None), PLAN, PATTERN], None), (papers.least_paper,
                                                                      [PRIME, (STATE, None), PATTERN], None),
    (papers.judge, [SCHEMA, PRIME, (5, NoRoot), PATTERN, ANY], None), (papers.witness,
                                                                       [SCHEMA, PRIME, PATTERN, ANY, ANY], None),
    (desks.Desk, [SCHEMA, PRIME], None),
]
WRONG = [None, True, "x y", -1, [], {"a": 1, 2: 3}, ((),), b"", ("a",), STATE, lambda: 1]


# Those of them that are no wrong ones where such an error is named.
RIGHT = {NoText: ["x y"], NoRow: [("a",)], NoFacts: [[]], NoRows: [[]], OtherSchema: [STATE]}


def wrong_for(error):
    return [thing for thing in WRONG if not any(thing is one or thing == one for one in RIGHT.get(error, []))]


class Errors(unittest.TestCase):
    def test_the_first_that_is_due(self):
        """Whatever other arguments are wrong, too."""
        for call, given, order in CALLS:
            order = order or range(len(given))
            named = [at for at in order if given[at][1] is not None]
            for many in range(1, len(named) + 1):
                for some in itertools.combinations(named, many):
                    first = [at for at in order if at in some][0]
                    for turn in range(len(WRONG)):
                        arguments = []
                        for at, (good, error) in enumerate(given):
                            wrong = wrong_for(error)
                            arguments.append(wrong[(turn + at) % len(wrong)] if at in some else good)
                        with self.assertRaises(ViewError, msg=(call, some, turn)) as caught:
                            call(*arguments)
                        self.assertIs(type(caught.exception), given[first][1], (call, arguments))

    def test_good_ones_raise_nothing(self):
        for call, given, _ in CALLS:
            if NoStore not in [error for _, error in given]:
                call(*[good for good, _ in given])


def calls_of_all_kinds():
    """Calls without errors, as pairs of a name and of a function without arguments that makes them anew."""
    told = [(f"{call} {at}", lambda call=call, given=given: call(*copy.deepcopy([good for good, _ in given])))
            for at, (call, given, _) in enumerate(CALLS) if inspect.isfunction(call) and call.__name__ != "<lambda>"]
    told += [("tables", lambda: states.tables(STATE)), ("titles", lambda: states.titles(STATE)),
             ("edit_text", lambda: texts.edit_text(EDIT)),
             ("state_text", lambda: texts.state_text(STATE)), ("read_state",
                                                               lambda: texts.read_state(S, texts.state_text(STATE))),
             ("packed", lambda: things.packed(ANSWER)),
             ("unpacked", lambda: things.unpacked(things.packed(ANSWER))), ("cost", lambda: papers.cost(ANSWER)),
             ("cells", STATE.cells), ("rules", STATE.rules), ("bags", STATE.bags),
             ("records", lambda: disks.records(disks.record(1, "a") + disks.record(2, "b"))),
             ("judge", lambda: papers.judge(S, P, roots.root_number(P, STATE), QUESTION, ANSWER)),
             ("rule_text", lambda: ruletexts.rule_text(FAR)), ("view_state",
                                                               lambda: views.view_state(views.View(S, BOOK, T))),
             ("tree", lambda: trees.Tree(P, (FACT,))),
             ("house_text", lambda: houses.house_text(houses.House(7, S, P, disks.Disk(2, 300)))),
             ("first", lambda: stores.begun(disks.Disk(2, 300), "x").entries())]
    return told


def spoil(thing):
    """Empties what can be emptied."""
    if isinstance(thing, (list, dict)):
        thing.clear()
    if isinstance(thing, tuple):
        for part in thing:
            spoil(part)


class Equal(unittest.TestCase):
    def test_equal_calls_tell_equal_things(self):
        """Also behind other calls, and behind what was told was emptied."""
        calls = calls_of_all_kinds()
        self.assertGreater(len(calls), 50)
        wanted = {name: copy.deepcopy(call()) for name, call in calls}
        for name, call in calls:
            spoil(call())
        for name, call in reversed(calls):
            told = call()
            self.assertEqual(told, wanted[name], name)
            self.assertIs(type(told), type(wanted[name]), name)
            spoil(told)
        for name, call in calls:
            self.assertEqual(call(), wanted[name], name)

    def test_nothing_that_is_handed_in_is_changed(self):
        for call, given, _ in CALLS:
            if NoStore in [error for _, error in given] or call is houses.House or inspect.ismethod(call):
                continue
            arguments = [good for good, _ in given]
            kept = copy.deepcopy(arguments)
            call(*arguments)
            for one, other in zip(arguments, kept):
                if not isinstance(one, (disks.Disk, views.View)):
                    self.assertEqual(one, other, call)

    def test_objects_are_equal_to_nothing_of_another_class(self):
        disk = disks.Disk(2, 20000)
        house = houses.House(7, S, P, disk)
        made = [states.State(S), trees.Tree(P, ()), views.View(S, {}, {name: () for name in T}), disk, house,
                worlds.World(S, P, 2, 2, 200), desks.Desk(S, P),
                stores.begun(disks.Disk(2, 200), "x")]
        for at, one in enumerate(made):
            for other in [*made[:at], *made[at + 1:], *odd_things()[:40], (), {}, S, T]:
                if isinstance(one, states.State) and isinstance(other, states.State):
                    continue
                self.assertFalse(one == other)
                self.assertFalse(other == one)
                self.assertTrue(one != other)
        for one, other in ((house, houses.house_at(S, P, disk)), (disk, disk.copy()),
                           (made[2], views.View(S, {}, {name: () for name in T}))):
            self.assertTrue(one == one)
            self.assertFalse(one == other)
        self.assertTrue(made[0] == states.State(S) and made[1] == trees.Tree(P, ()))

    def test_objects_keep_copies(self):
        book, rows = dict(BOOK), dict(T)
        view = views.View(S, book, rows)
        book.clear()
        rows.clear()
        self.assertEqual((view.book(), view.tables(), len(view.rows("near"))), (BOOK, T, 3))


class Whole(unittest.TestCase):
    def test_from_writes_to_papers(self):
        """A world whose answers are packed, taken by the judge, and whose facts stand on disks."""
        world = worlds.World(S, P, 3, 3, 20000)
        for at, deed in enumerate([("rule", "one", NEAR), ("rule", "two", FAR), ("bring", "link", ("a", "b")),
                                   ("bring", "link", ("b", "c")),
                                   ("rule", "three", rule("alone", [v(0)], ("is", "link", (v(0), ("any",))),
                                                          ("not", "near", (("any",), v(0)))))]):
            world.do(("write", at % 3 + 1, "abcde"[at], deed))
        world.quiet()
        root = world.house(1).root()
        for number in (1, 2, 3):
            for question, rows in ((QUESTION, (("a", "b"), ("a", "c"))), (("alone", (None,)), (("a",),)),
                                   (("link", (None, "c")), (("b", "c"),))):
                told = world.do(("ask", number, "ann", question))[2]
                self.assertEqual(told[1], rows)
                again = things.unpacked(things.packed(told))
                self.assertEqual(again, told)
                self.assertTrue(papers.judge(S, P, root, question, again))
                self.assertFalse(papers.judge(S, P, root, question, (again[0], rows[:-1], again[2])))
        for number in (1, 2, 3):
            world.do(("fall", number, ((0, 0, ""),) * 3))
            world.do(("open", number))
            self.assertEqual(world.house(number).root(), root)
