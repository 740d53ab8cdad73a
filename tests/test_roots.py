"""Points 5.5 and 5.6: trees and root numbers of States, and what is unlike in two of them."""

import unittest

from shownviews.errors import NoPrime, OtherPrime
from shownviews.roots import root_number, tree_of
from shownviews.ruletexts import rule_text
from shownviews.states import State, joined, next_edit, tables, titles, with_edit
from shownviews.trees import Tree, looked, made, unlike
from tests.helpers import (ANY, FAR, NEAR, S, chances, random_edits, rule, some_order, state_from, told_by, unchanged,
                           v)
from tests.slowly import order_of, slow_mix
from tests.test_mixing import not_primes

P = 2 ** 61 - 1
PRIMES = (1000, 1009, 65537, P, 2 ** 127)
ODD_RULE = rule("x", ["it's ~ 'odd'", v(3)], ("less", v(3), "~~''"), ("is", "link", (v(3), ANY)))


def slow_facts(state):
    facts = [(name, row) for name, rows in tables(state).items() for row in rows]
    facts += [("rule", (title, rule_text(one))) for title, one in titles(state).items()]
    return tuple(sorted(facts, key=lambda fact: (fact[0], [order_of(worth) for worth in fact[1]])))


def slow_root_number(p, state):
    tree = Tree(p, slow_facts(state))
    mark = ",".join(f"{life},{number}" for life, number in state.mark)
    return slow_mix(p, f"{mark};{tree.number},{tree.many}")


def led(*deeds, life=7, state=None):
    state = State(S) if state is None else state
    for deed in deeds:
        state = with_edit(state, next_edit(state, life, deed))
    return state


class Roots(unittest.TestCase):
    def compare(self, state):
        for p in PRIMES:
            tree = tree_of(p, state)
            self.assertEqual((tree.p, tree.facts), (p, slow_facts(state)))
            self.assertEqual(tree, Tree(p, slow_facts(state)))
            self.assertEqual(root_number(p, state), slow_root_number(p, state))

    def test_without_edits(self):
        state = State(S)
        self.compare(state)
        self.assertEqual(tree_of(P, state).facts, ())
        empty = slow_mix(P, "1")
        self.assertEqual(root_number(P, state), slow_mix(P, f";{empty},0"))

    def test_the_very_text_that_is_mixed(self):
        state = led(("bring", "link", ("a", "b")), ("rule", "one", NEAR))
        state = with_edit(state, (12, 1, 9, (), ("unrule", "two")))
        facts = (("link", ("a", "b")), ("rule", ("one", "near(?0, ?1) if link(?0, ?1)")))
        self.assertEqual(tree_of(P, state).facts, facts)
        tree = Tree(P, facts)
        self.assertEqual(root_number(P, state), slow_mix(P, f"7,2,12,1;{tree.number},2"))
        self.assertNotEqual(root_number(P, state), slow_mix(P, f"7:2,12:1;{tree.number},2"))

    def test_deeds_of_all_kinds(self):
        deeds = [("put", "name", ("k", "v")), ("put", "name", ("l", "w")), ("take", "name", ("k",)),
                 ("add", "stock", ("x",), 10 ** 20 - 1), ("add", "stock", ("x",), 10 ** 20 - 1),
                 ("add", "stock", ("y",), -5),
                 ("add", "stock", ("y",), 5), ("bring", "link", ("a'~", "b")), ("bring", "link", ("", " ")),
                 ("drop", "link", ("a'~", "b")), ("rule", "one", ODD_RULE), ("rule", "two", FAR), ("unrule", "two"),
                 ("rule", "three", NEAR)]
        state = State(S)
        for deed in deeds:
            state = led(deed, state=state)
            self.compare(state)
        facts = tree_of(P, state).facts
        self.assertIn(("stock", ("x", 2 * 10 ** 20 - 2)), facts)
        self.assertIn(("rule", ("one", rule_text(ODD_RULE))), facts)
        self.assertEqual([fact[1][0] for fact in facts if fact[0] == "rule"], ["one", "three"])
        self.assertEqual(len(facts), 5)

    def test_by_chance(self):
        for chance in chances(30):
            edits = random_edits(chance, [1, 2, 7], chance.randrange(30))
            state = state_from(edits)
            self.compare(state)
            other = state_from(some_order(chance, edits))
            self.assertEqual(root_number(P, other), root_number(P, state))
            self.assertEqual(tree_of(P, other), tree_of(P, state))

    def test_states_that_came_about_otherwise(self):
        """The root number hangs on the mark, the tables and the titles alone."""
        one = led(("bring", "link", ("a", "b")), ("add", "stock", ("x",), 3), ("put", "name", ("k", "v")))
        other = led(("put", "name", ("k", "u")), ("put", "name", ("k", "v")), ("add", "stock", ("x",), 3))
        other = with_edit(State(S), (7, 1, 5, (), ("bring", "link", ("a", "b"))))
        other = with_edit(other, (7, 2, 8, ((7, 1),), ("put", "name", ("k", "v"))))
        other = with_edit(other, (7, 3, 99, ((7, 2),), ("add", "stock", ("x",), 3)))
        self.assertNotEqual(told_by(one), told_by(other))
        self.assertEqual((tables(one), one.mark), (tables(other), other.mark))
        for p in PRIMES:
            self.assertEqual(root_number(p, one), root_number(p, other))
        # Nothing of what was taken, and nothing of sums of 0, is in the tree.
        gone = led(("put", "name", ("k", "v")), ("take", "name", ("k",)), ("add", "stock", ("x",), 3),
                   ("add", "stock", ("x",), -3),
                   ("rule", "one", NEAR), ("unrule", "one"))
        self.assertEqual(tree_of(P, gone), tree_of(P, State(S)))

    def test_another_mark_is_another_text(self):
        one = led(("bring", "link", ("a", "b")))
        for other in (led(("bring", "link", ("a", "b")), life=8), led(("bring", "link", ("a", "b")), ("unrule", "x")),
                      with_edit(one, (8, 1, 1, (), ("unrule", "x")))):
            self.assertEqual(tree_of(P, one), tree_of(P, other))
            self.assertNotEqual(root_number(P, one), root_number(P, other))

    def test_no_prime(self):
        state = led(("bring", "link", ("a", "b")))
        for thing in [*not_primes(), None, True, False, "1009", (1009,), [1009], state]:
            self.assertRaises(NoPrime, tree_of, thing, state)
            self.assertRaises(NoPrime, root_number, thing, state)

    def test_nothing_is_changed(self):
        state = led(("bring", "link", ("a", "b")), ("rule", "one", NEAR))
        kept = told_by(state)
        for _ in range(2):
            self.assertEqual(unchanged(self, root_number, P, state), slow_root_number(P, state))
        self.assertEqual(told_by(state), kept)


class Unlike(unittest.TestCase):
    def test_states_that_were_parted_and_joined(self):
        seen = 0
        for chance in chances(25):
            edits = random_edits(chance, [1, 2], 25)
            one = state_from([edit for edit in edits if edit[0] == 1 and all(life == 1 for life, _ in edit[3])])
            other = state_from([edit for edit in edits if edit[0] == 2 and all(life == 2 for life, _ in edit[3])])
            whole = joined(one, other)
            for p in (1009, P):
                trees = [tree_of(p, state) for state in (one, other, whole)]
                for mine in trees:
                    for theirs in trees:
                        told = unlike(mine, theirs)
                        wanted = (set(mine.facts) - set(theirs.facts), set(theirs.facts) - set(mine.facts))
                        if p == P:
                            self.assertEqual((set(told[0]), set(told[1])), wanted)
                            self.assertEqual(looked(mine, theirs) == 0, mine == theirs)
                        else:
                            self.assertTrue(set(told[0]) <= wanted[0] and set(told[1]) <= wanted[1])
                        self.assertLessEqual(looked(mine, theirs), made(mine) + made(theirs))
                        seen += len(told[0])
        self.assertGreater(seen, 100)

    def test_little_is_looked_at_where_little_is_unlike(self):
        state = led(*[("put", "name", (f"k{n}", "v")) for n in range(400)])
        more = led(("put", "name", ("k7", "w")), state=state)
        one, other = tree_of(P, state), tree_of(P, more)
        self.assertEqual(unlike(one, other), ((("name", ("k7", "v")),), (("name", ("k7", "w")),)))
        self.assertLess(looked(one, other), 40)
        self.assertGreater(made(one), 100)
        self.assertEqual(looked(one, tree_of(P, state)), 0)

    def test_other_primes(self):
        state = led(("bring", "link", ("a", "b")))
        self.assertRaises(OtherPrime, unlike, tree_of(1009, state), tree_of(1013, state))
        self.assertRaises(OtherPrime, looked, tree_of(1009, state), tree_of(1013, state))
