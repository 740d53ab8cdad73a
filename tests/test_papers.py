"""Part 8: answers with papers, the judge, witnesses, costs."""

import itertools
import unittest

from shownviews.books import bar
from shownviews.edits import is_mark
from shownviews.errors import BadText, NoPattern, NoPlan, NoPrime, NoRoot, NoSchema, NoShowing, TooMany
from shownviews.lots import answer as rows_of
from shownviews.lots import better, closed_lot, is_closed, seeks, trace
from shownviews.papers import answer_of, cost, judge, least_paper, witness
from shownviews.plans import is_plan
from shownviews.roots import root_number, tree_of
from shownviews.ruletexts import read_rule, rule_text
from shownviews.showings import is_clash, read, root_of, shown
from shownviews.states import State, tables, titles
from shownviews.texts import read_state
from shownviews.trees import Tree
from tests.helpers import (ANY, FAR, NEAR, S, T, deep, odd_things, parts_put_otherwise, rule, slow_rows, told_by,
                           unchanged, v)
from tests.slowly import fits, rows_of_all, slow_mix, slow_number, slow_plans, slow_rank, slow_texts
from tests.test_lots import BOOK, cases, random_plan
from tests.test_mixing import not_primes
from tests.test_roots import led

P = 2 ** 61 - 1
PRIMES = (1009, 65537, P, 2 ** 127)
X, Y, Z = v(0), v(1), v(2)
RULES = ("rule", None, None)
BARS = {"un": rule("u", [X], ("less", X, 1)), "up": rule("above", [X], ("is", "u", (X,))),
        "pl": rule("w", [X], ("is", "near", (X,))), "ri": rule("x", [1], ("not", "x", (1,)))}


def quoted(text):
    return "'" + text.replace("~", "~~").replace("'", "~'") + "'"


def worth(one):
    return quoted(one) if isinstance(one, str) else str(one)


def state_with(book, rows, mark="7:1", schema=S):
    """A State with this book, and with as many of these rows as have keys of their own."""
    parts = [f"{mark} 1"]
    cells = {row[0]: row[1] for row in reversed(rows["name"])}
    parts += [f"cell name {worth(key)} 1 7 ={worth(cells[key])}" for key in sorted(cells)]
    sums = {row[0]: row[1] for row in reversed(rows["stock"])}
    parts += [f"sum stock {worth(key)} 7 {sums[key]}" for key in sorted(sums)]
    parts += [f"bag link {worth(low)},{worth(high)} 7:1" for low, high in rows["link"]]
    parts += [f"rule {title} 1 7 {quoted(rule_text(book[title]))}" for title in sorted(book)]
    return read_state(schema, " ; ".join(parts))


STATE = state_with(BOOK, T)


def slow_root(p, answer):
    """The root number of an answer's mark and showing."""
    number, many = root_of(p, answer[2][3])
    mark = ",".join(f"{life},{last}" for life, last in answer[0])
    return slow_mix(p, f"{mark};{number},{many}")


def slow_judge(p, root, question, answer):
    """Whether an answer is taken, by what closed lots, traces and readings are."""
    if not (type(answer) is tuple and len(answer) == 3 and is_mark(answer[0]) and type(answer[2]) is tuple
            and len(answer[2]) == 4):
        return False
    mark, told, (plan, asked, claimed, showing) = answer
    try:
        pair = root_of(p, showing)
        if slow_root(p, answer) != root:
            return False
        facts = read(p, pair, showing, (RULES,))
        book = {row[0]: read_rule(S, row[1]) for _, row in facts or ()}
    except (NoShowing, BadText):
        return False
    if facts is None or len(book) < len(facts):
        return False
    why = bar(S, book, question[0])
    if why is not None:
        return repr(told) == repr(why)
    shown_rows = {name: read_all(p, showing, name) for name in T}
    if not is_plan(S, book, plan) or not is_closed(S, book, plan, shown_rows, question, (asked, claimed)):
        return False
    for stretch in trace(S, book, plan, shown_rows, question, (asked, claimed)):
        found = read(p, pair, showing, (stretch,))
        if found is None or any(fact[1] not in shown_rows[fact[0]] for fact in found):
            return False
    rows = [claim[1] for claim in claimed if claim[0] == question[0]]
    rows += [row for row in shown_rows.get(question[0], ())]
    return repr(told) == repr(slow_rows(row for row in rows if fits(row, question[1])))


def read_all(p, showing, name):
    """The rows of a relation that a showing shows."""
    sorts = {one: sorts for one, _, sorts in S}[name]
    kinds = {"word": str, "number": int}
    facts = facts_of(showing)
    return tuple(row for one,
                 row in facts if one == name and [kinds[sort] for sort in sorts] == [type(part) for part in row])


def facts_of(showing):
    if showing[0] == "cut":
        return []
    if showing[0] == "leaf":
        return list(showing[1])
    told = []
    for child, own in itertools.zip_longest(showing[1], showing[2]):
        told += facts_of(child) + ([own] if own else [])
    return told


def questions(chance):
    told = [("link", ("a", None)), ("link", (None, None)), ("stock", (None, None)), ("name", (None, "b")),
            ("none", (None,)), ("rule", (None, None)),
            ("link", ("a",)), ("p", (None,)), ("q", ("a", None)), ("q", (None, "b")), ("s", (None, None)),
            ("r", ("a",)), ("p", (None, None))]
    return chance.sample(told, 4)


class Answers(unittest.TestCase):
    def test_a_small_one(self):
        told = answer_of(P, STATE, (), ("near", ("a", None)))
        mark, rows, (plan, asked, claimed, showing) = told
        self.assertEqual((mark, rows, plan), (((7, 1),), (("a", "b"), ("a", "c")), ()))
        self.assertTrue(is_closed(S, BOOK, (), T, ("near", ("a", None)), (asked, claimed)))
        self.assertEqual(showing, shown(tree_of(P, STATE),
                                        (RULES, *trace(S, BOOK, (), T, ("near", ("a", None)), (asked, claimed)))))
        self.assertIs(judge(S, P, root_number(P, STATE), ("near", ("a", None)), told), True)

    def test_without_edits(self):
        for question in (("link", (None, None)), ("near", ("a",)), ("rule", (None, None))):
            told = answer_of(P, State(S), (), question)
            asked = trace(S, {}, (), {name: () for name in T}, question, ((), ()))
            self.assertEqual(told, ((), (), ((), (), (), ("leaf", ()))))
            self.assertEqual(len(asked), question[0] == "link")
            self.assertIs(judge(S, P, root_number(P, State(S)), question, told), True)
            self.assertEqual(cost(told), (0, 0, 0))

    def test_by_chance(self):
        told_rows = bars = 0
        for at, (chance, book, plan, rows, question) in enumerate(cases(150)):
            state = state_with(book, rows)
            p = PRIMES[at % 4]
            rows = tables(state)
            for one in (question, *questions(chance)):
                plan = chance.choice([(), random_plan(chance, book)])
                told = answer_of(p, state, plan, one)
                bars += self.compare(p, state, plan, one, told)
                told_rows += len(told[1])
        self.assertGreater(min(told_rows, bars), 30, (told_rows, bars))

    def compare(self, p, state, plan, question, told):
        book, rows = titles(state), tables(state)
        mark, found, paper = told
        self.assertEqual(mark, state.mark)
        why = bar(S, book, question[0])
        if why is not None:
            self.assertEqual(found, why)
            self.assertEqual(paper, ((), (), (), shown(tree_of(p, state), (RULES,))))
        else:
            self.assertEqual(found, rows_of(S, book, plan, rows, question))
            meant = rows_of_all(S, book, rows).get(question[0], ())
            self.assertEqual(found, slow_rows(row for row in meant if fits(row, question[1])))
            lot = paper[1:3]
            self.assertEqual(paper[0], plan)
            self.assertTrue(is_closed(S, book, plan, rows, question, lot))
            self.assertEqual(paper[3], shown(tree_of(p, state), (RULES, *trace(S, book, plan, rows, question, lot))))
        root = root_number(p, state)
        self.assertIs(judge(S, p, root, question, told), True)
        self.assertIs(judge(S, p, root + 1, question, told), False)
        self.assertTrue(slow_judge(p, root, question, told))
        facts = facts_of(paper[3])
        self.assertEqual(cost(told), (len(facts), repr(paper[3]).count("('cut', "), len(paper[1]) + len(paper[2])))
        return why is not None

    def test_names_with_a_bar(self):
        state = state_with({**BOOK, **BARS}, T)
        root = root_number(P, state)
        for name, why in (("u", ("unsafe", "un")), ("above", ("unsafe", "un")), ("w", ("places", "pl")),
                          ("x", ("ring", ("x",)))):
            for terms in ((None,), ("a", None), (1,)):
                told = answer_of(P, state, (), (name, terms))
                self.assertEqual(told, (state.mark, why, ((), (), (), shown(tree_of(P, state), (RULES,)))))
                self.assertIs(judge(S, P, root, (name, terms), told), True)
                self.assertEqual(least_paper(P, state, (name, terms)), told)
                self.assertEqual(cost(told)[2], 0)
        self.assertEqual(answer_of(P, state, (), ("near", ("a", None)))[1], (("a", "b"), ("a", "c")))

    def test_errors(self):
        good = ("near", ("a", None))
        for thing in not_primes():
            self.assertRaises(NoPrime, answer_of, thing, STATE, None, None)
            self.assertRaises(NoPrime, least_paper, thing, STATE, None)
        for thing in [None, [], (1,), (("one", (0,), (0, 0)),), (("one", (), (0,)), ("one", (), (0,))),
                      (("none", (), (0,)),), "", True, {}]:
            self.assertRaises(NoPlan, answer_of, P, STATE, thing, None)
            self.assertRaises(NoPlan, answer_of, P, STATE, thing, good)
        for thing in odd_things():
            if thing != ():
                self.assertRaises(NoPlan, answer_of, P, STATE, thing, good)
            for question in (thing, ("near", thing), (thing, (None,)), ("near", (thing, True))):
                if not is_pattern(question):
                    self.assertRaises(NoPattern, answer_of, P, STATE, (), question)
                    self.assertRaises(NoPattern, least_paper, P, STATE, question)
        kept = told_by(STATE)
        self.assertEqual(unchanged(self, answer_of, P, STATE, (), good), answer_of(P, STATE, (), good))
        self.assertEqual(told_by(STATE), kept)


def is_pattern(thing):
    """Whether one of the things of all kinds, put so, is a pattern."""
    if type(thing) is not tuple or len(thing) != 2 or type(thing[0]) is not str or type(thing[1]) is not tuple:
        return False
    if not 1 <= len(thing[0]) <= 8 or not all("a" <= sign <= "z" for sign in thing[0]) or not 1 <= len(thing[1]) <= 5:
        return False
    return all(one is None or type(one) is int or type(one) is str and len(one) <= 20 and "\n" not in one
               for one in thing[1])


QUESTION = ("near", ("a", None))
TOLD = answer_of(P, STATE, (), QUESTION)
ROOT = root_number(P, STATE)


class Judged(unittest.TestCase):
    def taken(self, answer, question=QUESTION, root=ROOT, p=P):
        told = judge(S, p, root, question, answer)
        self.assertIs(type(told), bool)
        return told

    def put(self, **parts):
        """The good answer with other parts."""
        mark, told, (plan, asked, claimed, showing) = TOLD
        good = {"mark": mark, "told": told, "plan": plan, "asked": asked, "claimed": claimed, "showing": showing,
                **parts}
        return (good["mark"], good["told"], (good["plan"], good["asked"], good["claimed"], good["showing"]))

    def no(self, *answers):
        for answer in answers:
            self.assertIs(self.taken(answer), False)

    def test_rows(self):
        rows = TOLD[1]
        self.assertTrue(self.taken(self.put()))
        self.no(self.put(told=rows[:1]), self.put(told=()), self.put(told=rows[::-1]), self.put(told=rows + rows[:1]),
                self.put(told=rows[:1] * 2),
                self.put(told=(*rows, ("b", "c"))), self.put(told=list(rows)), self.put(told=(list(rows[0]), rows[1])),
                self.put(told=None),
                self.put(told=(("a", "b", "c"),)), self.put(told=("unsafe", "one")), self.put(told=("ring", ("near",))))

    def test_marks_and_roots(self):
        self.no(self.put(mark=((7, 2),)), self.put(mark=()), self.put(mark=((7, 1), (8, 1))), self.put(mark=[(7, 1)]),
                self.put(mark=((7, True),)),
                self.put(mark=((7.0, 1),)), self.put(mark=((True, 1),)), self.put(mark=None))
        for root in (0, ROOT - 1, ROOT + 1, ROOT + P, 10 ** 39, tree_of(P, STATE).number):
            self.assertIs(self.taken(TOLD, root=root), False)
        for p in (1009, P - 1, 2 ** 127):
            self.assertIs(self.taken(TOLD, p=p), False)
        self.assertIs(judge((("link", "bag", ("word", "number")),), P, ROOT, QUESTION, TOLD), False)

    def test_more_and_fewer_parts(self):
        mark, told, paper = TOLD
        self.no((*TOLD, None), (*TOLD, ()), TOLD[:2], (), list(TOLD), (mark, told, (*paper, ())),
                (mark, told, paper[:3]), (mark, told, list(paper)))

    def test_other_questions(self):
        for question in (("near", ("b", None)), ("near", (None, None)), ("near", ("a",)), ("link", ("a", None)),
                         ("none", (None,)), ("near", ("a", "b"))):
            self.assertIs(self.taken(TOLD, question=question), False)

    def test_plans(self):
        tree = tree_of(P, STATE)
        whole = shown(tree, (RULES, ("link", None, None)))
        for plan in ((("two", (0,), (0, 1)),), (("one", (), (0,)), ("two", (0,), (0, 1))), (("two", (1,), (1, 0)),)):
            self.assertTrue(self.taken(self.put(plan=plan)))
        # By this plan more is asked.
        plan = (("two", (0,), (1, 0)),)
        self.no(self.put(plan=plan), self.put(plan=plan, showing=whole))
        asked, claimed = closed_lot(S, BOOK, plan, T, QUESTION)
        self.assertTrue(self.taken(self.put(plan=plan, asked=asked, claimed=claimed, showing=whole)))
        self.no(self.put(plan=(("two", (0,), (0, 0)),)), self.put(plan=(("three", (0,), (0, 1)),)), self.put(plan=[]),
                self.put(plan=None),
                self.put(plan=(("two", (0,), (0, 1)),) * 2), self.put(plan=(("two", (0,), (False, 1)),)),
                self.put(plan=(("two", (2,), (0, 1)),)))

    def test_patterns_and_claims(self):
        _, _, (_, asked, claimed, showing) = TOLD
        self.no(self.put(asked=()), self.put(asked=asked * 2), self.put(asked=list(asked)), self.put(claimed=()),
                self.put(claimed=claimed[:1]),
                self.put(claimed=claimed[1:]), self.put(claimed=claimed * 2), self.put(claimed=list(claimed)),
                self.put(asked=asked + (("link", (None, None)),)),
                self.put(asked=asked + (("none", (None,)),)), self.put(asked=asked + (("near", (None, None)),)))
        for at, claim in enumerate(claimed):
            for bent in ((*claim[:2], -1, *claim[3:]), (*claim[:2], True, *claim[3:]), (*claim[:3], "none", claim[4]),
                         (*claim[:3], "two", claim[4]),
                         (*claim[:4], claim[4][:-1]), (*claim[:4], claim[4][::-1]), claim[:4],
                         (claim[0], ("a", "z"), *claim[2:]), ("link", *claim[1:]),
                         list(claim), (claim[0], list(claim[1]), *claim[2:])):
                if bent != claim:
                    self.no(self.put(claimed=(*claimed[:at], bent, *claimed[at + 1:])))
        low, high = claimed
        self.no(self.put(claimed=((*low[:2], 9, *low[3:]), (*high[:2], 9, *high[3:]))))
        # Right ones of other shapes.
        self.assertTrue(self.taken(self.put(claimed=claimed[::-1])))
        self.assertTrue(self.taken(self.put(claimed=((*low[:2], 0, *low[3:]), (*high[:2], 10 ** 30, *high[3:])))))
        whole = shown(tree_of(P, STATE), (("none", (1,), (2,)), RULES, ("link", None, None)))
        more = (("near", ("a", None)), ("near", ("b", None)))
        lot = (("near", ("b", "c"), 0, "one", ((0, "b"), (1, "c"))), *claimed)
        self.assertTrue(self.taken(self.put(asked=more, claimed=lot, showing=whole)))
        self.no(self.put(asked=more, claimed=claimed, showing=whole), self.put(claimed=lot, showing=whole))
        self.assertTrue(self.taken(self.put(showing=whole)))

    def test_showings(self):
        tree = tree_of(P, STATE)
        whole = shown(tree, tuple((name, None, None) for name in ("link", "rule")))
        self.assertTrue(self.taken(self.put(showing=whole)))
        facts = tree.facts
        for other in (facts[1:], facts[:-1], (*facts, ("zz", (1,))), ()):
            self.no(self.put(showing=shown(Tree(P, other), tuple((name, None, None) for name in ("link", "rule")))))
        self.no(self.put(showing=None), self.put(showing=list(whole)),
                self.put(showing=("cut", tree.number, tree.many)), self.put(showing=("leaf", facts)))

    def test_showings_that_cut_too_much(self):
        """Each stretch that is come to must be shown."""
        rows = {**T, "link": tuple((f"a{n:02}", f"a{n + 1:02}") for n in range(60)),
                "name": tuple((f"k{n:02}", "v") for n in range(60))}
        for p in (65537, P):
            state = state_with(BOOK, rows)
            tree, root = tree_of(p, state), root_number(p, state)
            for question in (("near", ("a57", None)), ("link", ("a05", None)), ("name", (None, "v")),
                             ("name", ("k07", "v"))):
                told = answer_of(p, state, (), question)
                self.assertTrue(judge(S, p, root, question, told))
                stretches = (RULES, *trace(S, BOOK, (), rows, question, told[2][1:3]))
                self.assertGreater(cost(told)[1], 0)
                missed = 0
                for at in range(len(stretches)):
                    showing = shown(tree, stretches[:at] + stretches[at + 1:])
                    other = (told[0], told[1], (*told[2][:3], showing))
                    self.assertIs(judge(S, p, root, question, other), slow_judge(p, root, question, other))
                    missed += not judge(S, p, root, question, other)
                self.assertGreater(missed, 0)
                whole = shown(tree, (RULES, ("link", None, None), ("name", None, None)))
                self.assertTrue(judge(S, p, root, question, (told[0], told[1], (*told[2][:3], whole))))

    def test_bars(self):
        state = state_with({**BOOK, **BARS}, T)
        root = root_number(P, state)
        for name, why in (("u", ("unsafe", "un")), ("w", ("places", "pl")), ("x", ("ring", ("x",)))):
            told = answer_of(P, state, (), (name, (None,)))
            showing = told[2][3]
            for parts in (((), (), ()), (None, None, None), (1, [2], {}), (told, deep(tuple, 26), deep(list, 25)),
                          (TOLD[2][0], TOLD[2][1], TOLD[2][2])):
                self.assertTrue(judge(S, P, root, (name, (None,)), (told[0], why, (*parts, showing))))
            for bent in (("unsafe", "up"), ("unsafe", "one"), ("places", "un"), ("ring", ("x", "x")), ("ring", ["x"]),
                         ["unsafe", "un"], (), None,
                         (("a",),), why[0], why[:1], (*why, 1), (why,)):
                if bent != why:
                    self.assertIs(judge(S, P, root, (name, (None,)), (told[0], bent, told[2])), False)
            for other in (("near", ("a", None)), ("link", (None, None)), ("none", (None,))):
                self.assertIs(judge(S, P, root, other, told), False)

    def test_bent_books(self):
        """Rules' texts that are none, titles that stand twice, facts that are no rows of their relations."""
        good = rule_text(NEAR)
        cases = [((("rule", ("one", good)),), True), ((("rule", ("one", good + " ")),), False),
                 ((("rule", ("one", "")),), False),
                 ((("rule", ("one", good)), ("rule", ("one", rule_text(FAR)))), False),
                 ((("rule", ("one", good)), ("rule", ("two", "x"))), False),
                 ((("rule", ("one", rule_text(rule("x", [X], ("is", "link", (X,)))))),), False),
                 ((("rule", ("one", good + "\n")),), False),
                 ((("link", ("a",)), ("link", ("a", "b")), ("rule", ("one", good))), False),
                 ((("link", ("a", 1)), ("link", ("a", "b")), ("rule", ("one", good))), False),
                 ((("link", ("a", "b", "c")), ("link", ("a", "b")), ("rule", ("one", good))), False),
                 ((("link", ("b",)), ("link", ("b", 10 ** 30)), ("rule", ("one", good))), True),
                 ((("near", ("a", "z")), ("rule", ("one", good))), True),
                 ((("name", (1,)), ("zz", (10 ** 30, 1, 1)), ("rule", ("one", good))), True)]
        for facts, wanted in cases:
            facts = tuple(sorted(facts, key=lambda fact: (fact[0], [(isinstance(one, str), one) for one in fact[1]])))
            tree = Tree(P, facts)
            rows = tuple(row for name, row in facts if name == "link" and row == ("a", "b"))
            showing = shown(tree, tuple((name, None, None) for name in ("link", "name", "near", "rule", "zz")))
            claimed = tuple(("near", row, 0, "one", ((0, row[0]), (1, row[1]))) for row in rows)
            answer = ((), rows, ((), (QUESTION,), claimed, showing))
            root = slow_root(P, answer)
            self.assertIs(judge(S, P, root, QUESTION, answer), wanted, facts)
            self.assertEqual(slow_judge(P, root, QUESTION, answer), wanted)
        # In tables the last place of a sum may have any number of digits, other places may not.
        for name, row, wanted in (("stock", ("a", 10 ** 30), True), ("stock", ("a" * 21, 1), False),
                                  ("link", ("a", "b" * 20), True)):
            if len(row[0]) <= 20:
                showing = ("leaf", ((name, row),))
                tree = Tree(P, ((name, row),))
                answer = ((), (row,), ((), (), (), shown(tree, ((name, None, None),))))
                self.assertIs(judge(S, P, slow_root(P, answer), (name, (None, None)), answer), wanted)

    def test_books_that_are_not_all_shown(self):
        book = {f"r{a}{b}": NEAR for a in "abcdef" for b in "abcdef"}
        state = state_with(book, T)
        tree = tree_of(P, state)
        root = root_number(P, state)
        told = answer_of(P, state, (), ("link", ("a", None)))
        self.assertTrue(judge(S, P, root, ("link", ("a", None)), told))
        some = shown(tree, (("link", None, None), ("rule", ("rcc",), ("rcd",))))
        self.assertLess(len(facts_of(some)), len(tree.facts))
        self.assertFalse(judge(S, P, root, ("link", ("a", None)), (told[0], told[1], (*told[2][:3], some))))

    def test_flags_in_the_place_of_numbers(self):
        book = {"a": rule("x", [Y, 1], ("is", "stock", (ANY, Y)))}
        state = state_with(book, {**T, "stock": (("a", 1),)})
        question = ("x", (None, 1))
        told = answer_of(P, state, (), question)
        root = root_number(P, state)
        self.assertTrue(judge(S, P, root, question, told))
        seen = 0
        for thing in parts_put_otherwise(told, [True, False]):
            if "True" in repr(thing) or "False" in repr(thing):
                self.assertIs(judge(S, P, root, question, thing), False, thing)
                seen += 1
        self.assertGreater(seen, 50)

    def test_parts_put_otherwise(self):
        """Whatever is taken is the whole answer of the State, as slow as one may look at it."""
        seen = {True: 0, False: 0}
        for at, (chance, book, plan, rows, question) in enumerate(cases(30)):
            state = state_with(book, rows)
            told = answer_of(P, state, plan, question)
            root = root_number(P, state)
            others = list(parts_put_otherwise(told, [None, 0, (), "a", ("a", "b"), (question,), told[1], told[2][2][:1],
                                                     7]))
            for thing in chance.sample(others, min(len(others), 150)):
                taken = judge(S, P, root, question, thing)
                self.assertIs(taken, slow_judge(P, root, question, thing))
                if taken:
                    self.assertEqual(repr(thing[:2]), repr(told[:2]))
                seen[taken] += 1
        self.assertGreater(min(seen.values()), 20, seen)

    def test_the_main_fact(self):
        """Answers of other States, plans, questions, mixed: taken are just whole answers of the State."""
        seen = {True: 0, False: 0}
        for chance, book, plan, rows, question in cases(25):
            state = state_with(book, rows)
            more = dict(rows)
            more["link"] = tuple(sorted({*rows["link"], (chance.choice("abc"), chance.choice("abc"))}))
            states = [state, state_with(book, more), state_with({**book, "zz": NEAR}, rows)]
            plans = [(), plan]
            answers = [answer_of(P, one, way, question) for one in states for way in plans]
            root = root_number(P, state)
            for one in answers:
                for other in answers:
                    for third in answers:
                        for mixed in ((one[0], one[1], (*other[2][:3], third[2][3])),
                                      (one[0], other[1], (third[2][0], *one[2][1:3], states and other[2][3]))):
                            taken = judge(S, P, root, question, mixed)
                            if taken:
                                self.assertEqual(mixed[:2], answers[0][:2])
                            seen[taken] += 1
        self.assertGreater(min(seen.values()), 400, seen)

    def test_errors(self):
        for thing in odd_things():
            if thing != S:
                self.assertRaises(NoSchema, judge, thing, None, None, None, None)
            if type(thing) is not int or thing < 0:
                self.assertRaises(NoRoot, judge, S, P, thing, None, None)
            if not is_pattern(thing):
                self.assertRaises(NoPattern, judge, S, P, ROOT, thing, TOLD)
        for thing in not_primes():
            self.assertRaises(NoPrime, judge, S, thing, None, None, None)
        for thing in (-1, True, False, None, "1", (1, 2), 1.5):
            self.assertRaises(NoRoot, judge, S, P, thing, None, None)

    def test_things_of_all_kinds(self):
        mark, told, (plan, asked, claimed, showing) = TOLD
        claim = claimed[0]
        for thing in [*odd_things(), deep(tuple, 30), STATE]:
            for answer in (thing, (thing, told, TOLD[2]), (mark, thing, TOLD[2]), (mark, told, thing),
                           self.put(plan=thing if thing != () else None),
                           self.put(asked=thing), self.put(claimed=thing), self.put(showing=thing),
                           self.put(asked=(thing,)), self.put(claimed=(thing,)),
                           self.put(claimed=((thing, *claim[1:]), claimed[1])),
                           self.put(claimed=((*claim[:4], thing), claimed[1])),
                           self.put(claimed=((*claim[:3], thing, claim[4]), claimed[1])),
                           self.put(showing=("leaf", thing)), (thing, thing, thing)):
                self.assertIs(self.taken(answer), False)

    def test_equal_calls(self):
        self.assertTrue(unchanged(self, judge, S, P, ROOT, QUESTION, TOLD))
        self.assertTrue(judge(S, P, ROOT, QUESTION, TOLD))


class Witnesses(unittest.TestCase):
    p = 1009

    def told(self, question, one, other):
        """The clash that two answers have; the texts must be mixed in them."""
        found = witness(S, self.p, question, one, other)
        self.assertIs(is_clash(self.p, found), True)
        for text, answer in zip(found, (one, other)):
            number, many = root_of(self.p, answer[2][3])
            mark = ",".join(f"{life},{last}" for life, last in answer[0])
            self.assertIn(text, [f"{mark};{number},{many}", *slow_texts(self.p, answer[2][3])])
        return found

    def twins(self, rank, make):
        """Two facts of one number and this rank."""
        numbers = {}
        for at in itertools.count(1):
            fact = make(at)
            if slow_rank(self.p, fact) == rank and numbers.setdefault(slow_number(self.p, fact), fact) != fact:
                return numbers[slow_number(self.p, fact)], fact

    def test_facts_of_one_number(self):
        for rank in (0, 1, 2):
            low, high = self.twins(rank, lambda at: ("stock", ("k", at)))
            for links in ((), T["link"]):
                one, other = [state_with(BOOK, {**T, "link": links, "stock": (fact[1],)}) for fact in (low, high)]
                self.assertEqual(root_number(self.p, one), root_number(self.p, other))
                question = ("stock", (None, None))
                answers = [answer_of(self.p, state, (), question) for state in (one, other)]
                self.assertNotEqual(answers[0][1], answers[1][1])
                self.assertEqual(set(self.told(question, *answers)),
                                 {f"stock('k',{fact[1][1]})" for fact in (low, high)})
                self.told(question, *answers[::-1])
                for answer in answers:
                    self.assertIsNone(witness(S, self.p, question, answer, answer))
                # Of this name both tell the same.
                for question in (("link", (None, None)), ("near", ("a", None)), ("none", (None,))):
                    same = [answer_of(self.p, state, (), question) for state in (one, other)]
                    self.assertIsNone(witness(S, self.p, question, *same))
                # Of another question one is not taken.
                self.assertIsNone(witness(S, self.p, ("link", (None, None)), *answers))

    def test_rules_of_one_number(self):
        texts = {}
        for at in itertools.count(1):
            one = rule("x", [at], ("is", "link", (ANY, ANY)))
            fact = ("rule", ("one", rule_text(one)))
            if slow_rank(self.p, fact) == 0 and texts.setdefault(slow_number(self.p, fact), one) != one:
                other = texts[slow_number(self.p, fact)]
                break
        states = [state_with({"one": each}, T) for each in (one, other)]
        answers = [answer_of(self.p, state, (), ("x", (None,))) for state in states]
        self.assertNotEqual(answers[0][1], answers[1][1])
        self.told(("x", (None,)), *answers)

    def test_bars_that_are_unlike(self):
        """A rule by which a name has a bar, and one by which it has none, of one number."""
        texts = {}
        for at in itertools.count(1):
            for one in (rule("x", [at], ("is", "link", (ANY, ANY))), rule("x", [at], ("less", X, at))):
                texts.setdefault(slow_number(self.p, ("rule", ("one", rule_text(one)))), {})[one[1][0][0]] = one
            found = [pair for number, pair in texts.items() if len(pair) == 2 and (number + 1) % 4]
            if found:
                break
        answers = [answer_of(self.p, state_with({"one": one}, T), (), ("x", (None,))) for one in found[0].values()]
        self.assertIn(("unsafe", "one"), [answer[1] for answer in answers])
        self.told(("x", (None,)), *answers)

    def test_marks_of_one_root(self):
        question = ("near", (None, None))
        roots = {}
        for number in range(1, 3000):
            state = state_with(BOOK, T, f"7:{number}")
            roots.setdefault(root_number(self.p, state), []).append(state)
        one, other = next(states for states in roots.values() if len(states) > 1)[:2]
        answers = [answer_of(self.p, state, (), question) for state in (one, other)]
        self.assertEqual(answers[0][1], answers[1][1])
        tree = tree_of(self.p, one)
        wanted = tuple(f"7,{state.mark[0][1]};{tree.number},{tree.many}" for state in (one, other))
        self.assertEqual(self.told(question, *answers), wanted)
        self.assertEqual(self.told(question, *answers[::-1]), wanted[::-1])

    def test_trees_of_one_root(self):
        """Unlike trees, whose roots with the marks are mixed to one number."""
        question = ("stock", (None, None))
        roots = {}
        for number in range(1, 200):
            for amount in range(1, 30):
                state = state_with({}, {**T, "stock": (("k", amount),)}, f"7:{number}")
                roots.setdefault(root_number(self.p, state), []).append(state)
            found = [states for states in roots.values() if len({state.mark for state in states}) == len(states) > 1]
            if len(found) > 5:
                break
        for states in found:
            answers = [answer_of(self.p, state, (), question) for state in states[:2]]
            self.told(question, *answers)

    def test_none_for_others(self):
        one = answer_of(P, STATE, (), QUESTION)
        other = answer_of(P, state_with(BOOK, {**T, "link": (("a", "c"),)}), (), QUESTION)
        for pair in ((one, one), (one, other), (other, one), (None, None), (one, None), ((), one), (one, one[:2]),
                     ((one[0], (), one[2]), one),
                     (one, (one[0], one[1], (*one[2][:3], ("leaf", ()))))):
            self.assertIsNone(witness(S, P, QUESTION, *pair))
        for thing in odd_things():
            self.assertIsNone(witness(S, P, QUESTION, thing, thing))
            self.assertIsNone(witness(S, P, QUESTION, TOLD, thing))
            self.assertIsNone(witness(S, P, QUESTION, (TOLD[0], thing, TOLD[2]), TOLD))
            self.assertIsNone(witness(S, P, QUESTION, (thing, TOLD[1], TOLD[2]), TOLD))
            self.assertIsNone(witness(S, P, QUESTION, TOLD, (TOLD[0], TOLD[1], thing)))

    def test_errors(self):
        for thing in odd_things():
            if thing != S:
                self.assertRaises(NoSchema, witness, thing, None, None, None, None)
            if not is_pattern(thing):
                self.assertRaises(NoPattern, witness, S, P, thing, None, None)
        for thing in not_primes():
            self.assertRaises(NoPrime, witness, S, thing, None, None, None)


class Costs(unittest.TestCase):
    def test_small_ones(self):
        self.assertEqual(cost(TOLD), (len(facts_of(TOLD[2][3])), repr(TOLD[2][3]).count("'cut'"), 1 + 2))
        self.assertEqual(cost((((7, 1),), (), ((), (), (), ("cut", 1, 1)))), (0, 1, 0))
        self.assertEqual(cost(((), (), ((), (1, 2), (3,), ("node", (("cut", 1, 1), ("leaf", (4, 5)), ("cut", 1, 1)),
                                                           (6, 7))))), (4, 2, 3))
        node = ("node", (("cut", 1, 1), ("leaf", (4,))), (6,))
        self.assertEqual(cost(((), (), ((), (), (), ("node", (node, ("leaf", ()), node), (1, 2))))), (6, 2, 0))

    def test_least_papers(self):
        seen = better_than_plain = 0
        for chance, book, plan, rows, question in cases(60):
            state = state_with(book, rows)
            rows = tables(state)
            plans = slow_plans(book, rows_of_all(S, book, rows), question, S, 300)
            if plans is None:
                continue
            told = least_paper(P, state, question)
            self.assertTrue(judge(S, P, root_number(P, state), question, told))
            self.assertEqual(told, answer_of(P, state, told[2][0], question))
            least = min(many for many, _ in plans)
            self.assertEqual(seeks(S, book, told[2][0], rows, question), least)
            self.assertEqual(told[2][0], better(S, book, rows, question, 2000))
            better_than_plain += least < seeks(S, book, (), rows, question)
            seen += 1
        self.assertGreater(seen, 30)
        self.assertGreater(better_than_plain, 3)

    def test_too_many(self):
        body = [("is", "link", (v(n), v(n + 1))) for n in range(7)]
        state = state_with({"one": rule("x", [X], *body)}, T)
        with self.assertRaises(TooMany) as caught:
            least_paper(P, state, ("x", (None,)))
        self.assertEqual(caught.exception.most, 2000)
        self.assertRaises(NoPattern, least_paper, P, state, ("x", ()))
        self.assertRaises(NoPrime, least_paper, 5, state, None)
        # A name with a bar has no plans, nor has one that nothing tells.
        self.assertEqual(least_paper(P, state, ("none", (None,)))[1], ())

    def test_equal_states_have_equal_answers(self):
        """However they came about."""
        deeds = [("rule", "one", NEAR), ("rule", "two", FAR), ("bring", "link", ("a", "b")),
                 ("bring", "link", ("b", "c")), ("bring", "link", ("c", "a"))]
        one = led(*deeds)
        for order in ((1, 0, 4, 3, 2), (4, 1, 2, 0, 3)):
            other = led(*[deeds[at] for at in order])
            for question in (("near", (None, None)), ("near", ("a", None)), ("near", (None, "c"))):
                self.assertEqual(answer_of(P, one, (), question), answer_of(P, other, (), question))
                self.assertEqual(least_paper(P, one, question), least_paper(P, other, question))
