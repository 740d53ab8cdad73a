"""Points 5.2 and 5.6: trees, changes of them, and what is unlike in two."""

import random
import unittest

from shownviews.errors import Here, NoFact, NoFacts, NoPrime, NotHere, OtherPrime
from shownviews.mixing import number_of
from shownviews.showings import shown
from shownviews.states import State
from shownviews.trees import Tree, looked, made, unlike, with_fact, without
from tests.helpers import S, odd_things, order_of
from tests.slowly import slow_mix, slow_number, slow_rank, slow_shown, slow_tree, slow_tree_number
from tests.test_mixing import FACTS, NOT_FACTS, is_fact, not_primes

PRIMES = [1009, 65537, 2 ** 61 - 1, 2 ** 127 - 1]
WHOLE = tuple((name, None, None) for name in ("a", "abcdefgh", "b", "link", "rule", "stock", "x"))


def fact_order(fact):
    return (fact[0], [order_of(worth) for worth in fact[1]])


def in_order(facts):
    return tuple(sorted(set(facts), key=fact_order))


def of_ranks(p, ranks, many):
    """So many facts with each of the ranks, found by trying."""
    told = {rank: [] for rank in ranks}
    at = 0
    while any(len(found) < many for found in told.values()):
        fact = ("b", (at, "w" * (at % 3)))
        if len(told.get(slow_rank(p, fact), [None] * many)) < many:
            told[slow_rank(p, fact)].append(fact)
        at += 1
    return in_order([fact for found in told.values() for fact in found])


def random_facts(chance, many):
    told = [("b", (chance.randrange(10 * many), chance.choice("xyz"))) for _ in range(many)]
    told += [("link", (chance.choice("abc"), chance.choice([1, "1", 10 ** 25]))) for _ in range(many // 4)]
    return in_order([*told, *[fact for fact in FACTS[:8] if chance.random() < 0.3]])


class Trees(unittest.TestCase):
    def compare(self, p, facts):
        """Compares a new Tree with the slow one; returns it."""
        tree = Tree(p, facts)
        wanted = slow_tree(p, list(facts))
        self.assertEqual((tree.p, tree.facts, tree.many), (p, facts, len(facts)))
        self.assertEqual(tree.number, slow_tree_number(p, wanted))
        self.assertEqual(made(tree), len(wanted))
        return tree

    def test_no_facts_and_few(self):
        for p in PRIMES:
            self.assertEqual(Tree(p, ()).number, slow_mix(p, "1"))
            self.assertEqual(made(Tree(p, ())), 1)
            self.compare(p, ())
            for fact in FACTS:
                self.compare(p, (fact,))
            self.compare(p, in_order(FACTS))

    def test_many(self):
        for at, p in enumerate(PRIMES):
            for many in (3, 10, 60, 300):
                self.compare(p, random_facts(random.Random(1000 * at + many), many))

    def test_ranks(self):
        p = 65537
        self.assertEqual(made(self.compare(p, of_ranks(p, [0], 30))), 1)
        self.assertEqual(made(self.compare(p, of_ranks(p, [1], 5))), 7)
        self.assertEqual(made(self.compare(p, of_ranks(p, [2], 1))), 3)
        self.compare(p, of_ranks(p, [0, 1], 9))
        self.compare(p, of_ranks(p, [0, 5, 6], 4))
        self.compare(p, of_ranks(p, [0, 1, 2, 3, 4, 5, 6], 3))

    def test_ranks_end_at_six(self):
        p = 2 ** 61 - 1
        times = {}
        at = 0
        while 6 not in times or 7 not in times:
            number = number_of(p, ("b", (at,))) + 1
            for times_four in (6, 7):
                if number % 4 ** times_four == 0 and number % 4 ** (times_four + 1) != 0:
                    times.setdefault(times_four, ("b", (at,)))
            at += 1
        # Both are own facts of one node, which has three leaves.
        self.assertEqual(made(self.compare(p, in_order(times.values()))), 4)

    def test_a_number_one_less_than_the_prime(self):
        # Of p 1000 and more the number p - 1 is there now and then; p as a multiple of 4 tells the rank then.
        p = 4 ** 6
        fact = next(("b", (at,)) for at in range(10 ** 6) if number_of(p, ("b", (at,))) == p - 1)
        self.assertEqual(made(self.compare(p, (fact,))), 3)

    def test_equal_trees(self):
        facts = random_facts(random.Random(1), 20)
        self.assertTrue(Tree(1009, facts) == Tree(1009, facts))
        self.assertFalse(Tree(1009, facts) == Tree(1013, facts))
        self.assertFalse(Tree(1009, facts) == Tree(1009, facts[1:]))
        self.assertTrue(Tree(1009, facts) != Tree(1009, ()))
        for thing in (None, facts, 1009, State(S), (1009, facts)):
            self.assertFalse(Tree(1009, facts) == thing)


class Changes(unittest.TestCase):
    def compare(self, tree, elder):
        """Compares a Tree led on from an elder one with a new one; made are the parts that the elder one has not."""
        fresh = Tree(tree.p, tree.facts)
        self.assertTrue(tree == fresh)
        self.assertEqual((tree.number, tree.many), (fresh.number, fresh.many))
        self.assertEqual(shown(tree, WHOLE), shown(fresh, WHOLE))
        there = slow_tree(tree.p, list(elder.facts))
        parts = slow_tree(tree.p, list(tree.facts))
        self.assertEqual(made(tree), len([place for place in parts if place not in there
                                          or there[place][1] != parts[place][1]]))

    def lead(self, p, pool, facts, chance, many):
        tree = Tree(p, facts)
        for _ in range(many):
            fact = chance.choice(pool)
            kept = (tree.number, tree.many, tree.facts, made(tree), shown(tree, WHOLE))
            other = without(tree, fact) if fact in tree.facts else with_fact(tree, fact)
            self.compare(other, tree)
            self.assertEqual((tree.number, tree.many, tree.facts, made(tree), shown(tree, WHOLE)), kept)
            tree = other

    def test_by_chance(self):
        for at, p in enumerate(PRIMES):
            chance = random.Random(at)
            for many in (3, 15, 60):
                pool = random_facts(chance, many)
                self.lead(p, pool, in_order(chance.sample(pool, len(pool) // 2)), chance, 40)

    def test_ranks(self):
        p = 65537
        for at, pool in enumerate((of_ranks(p, [0], 12), of_ranks(p, [1], 6), of_ranks(p, [5, 6], 4),
                                   of_ranks(p, [0, 1, 2, 3, 4, 5, 6], 2), of_ranks(p, [0, 6], 4))):
            self.lead(p, pool, (), random.Random(at), 60)

    def test_to_no_facts_and_back(self):
        facts = of_ranks(65537, [0, 1, 2], 2)
        tree = Tree(65537, ())
        for fact in (*facts, *facts[::-1]):
            other = without(tree, fact) if fact in tree.facts else with_fact(tree, fact)
            self.compare(other, tree)
            tree = other
        self.assertTrue(tree == Tree(65537, ()))

    def test_errors(self):
        facts = in_order(FACTS)
        tree = Tree(1009, facts[1:])
        for thing in [*odd_things(), *NOT_FACTS, tree]:
            if not is_fact(thing):
                self.assertRaises(NoFact, with_fact, tree, thing)
                self.assertRaises(NoFact, without, tree, thing)
        for fact in facts[1:]:
            self.assertRaises(Here, with_fact, tree, fact)
        for fact in (facts[0], ("zz", (1,)), ("a", ("0",)), ("link", ("rule", "(", 1))):
            self.assertRaises(NotHere, without, tree, fact)
        self.assertRaises(NotHere, without, Tree(1009, ()), facts[0])

    def test_no_prime_and_no_facts(self):
        for thing in not_primes():
            self.assertRaises(NoPrime, Tree, thing, ())
            self.assertRaises(NoPrime, Tree, thing, None)
        facts = in_order(FACTS)
        for thing in [facts[::-1], list(facts), facts + facts[-1:], facts[:1] * 2, (facts,), {facts[0]: 1}, None, facts[0],
                      (("x", (1,)), ("a", (1,))), (("a", ("1",)), ("a", (1,))), (("a", (1, 2)), ("a", (1,))),
                      Tree(1009, facts), *[(fact,) for fact in NOT_FACTS], *[(*facts, fact) for fact in NOT_FACTS]]:
            self.assertRaises(NoFacts, Tree, 1009, thing)
        for thing in odd_things():
            if thing == () and type(thing) is tuple:
                self.assertEqual(Tree(1009, thing).many, 0)
            else:
                self.assertRaises(NoFacts, Tree, 1009, thing)

    def test_the_order_of_facts(self):
        facts = (("a", (-1, "z")), ("a", (1,)), ("a", (1, 0)), ("a", ("", "x")), ("a", ("-1",)), ("aa", (0,)),
                 ("rule", ("a", "")), ("rule", ("a", "\n")), ("rule", ("b", "")), ("s", (5,)))
        self.assertEqual(Tree(1009, facts).facts, facts)
        self.assertEqual(facts, in_order(facts))


class Unlike(unittest.TestCase):
    def compare(self, one, other):
        """Compares with what is told place by place; where there is no clash all unlike facts are found."""
        mine, theirs = slow_tree(one.p, list(one.facts)), slow_tree(one.p, list(other.facts))
        pairs = [{place: (slow_tree_number(one.p, tree, place), len(tree[place][1])) for place in tree}
                 for tree in (mine, theirs)]
        wanted = sum(1 for tree, others in (pairs, pairs[::-1]) for place in tree if others.get(place) != tree[place])
        self.assertEqual(looked(one, other), wanted)
        self.assertEqual(looked(other, one), wanted)
        told = unlike(one, other)
        self.assertEqual(unlike(other, one), told[::-1])
        for found, facts, others in ((told[0], one.facts, other.facts), (told[1], other.facts, one.facts)):
            rest = in_order(fact for fact in facts if fact not in others)
            if one.p > 10 ** 6:
                self.assertEqual(found, rest)
            self.assertEqual(found, in_order(fact for fact in rest if fact in found))
        return told

    def test_most_some_and_none_in_common(self):
        for at, p in enumerate(PRIMES):
            chance = random.Random(at)
            pool = random_facts(chance, 120)
            for share in (0.02, 0.3, 1):
                one = in_order(chance.sample(pool, len(pool) // 2))
                other = in_order([fact for fact in one if chance.random() > share]
                                 + [fact for fact in pool if fact not in one and chance.random() < share])
                self.compare(Tree(p, one), Tree(p, other))
            self.compare(Tree(p, pool), Tree(p, ()))
            self.compare(Tree(p, ()), Tree(p, ()))

    def test_few_are_looked_at(self):
        p = 2 ** 61 - 1
        tree = Tree(p, random_facts(random.Random(3), 400))
        self.assertEqual((looked(tree, tree), unlike(tree, Tree(p, tree.facts))), (0, ((), ())))
        other = without(tree, tree.facts[200])
        self.assertEqual(self.compare(tree, other), ((tree.facts[200],), ()))
        self.assertLess(looked(tree, other), 20)

    def test_where_there_is_a_clash_fewer_are_found(self):
        p = 1009
        numbers = {}
        for at in range(3000):
            numbers.setdefault(slow_number(p, ("b", (at,))), []).append(("b", (at,)))
        low, high = next(facts for facts in numbers.values() if len(facts) > 1 and slow_rank(p, facts[0]) == 0)[:2]
        self.assertEqual(self.compare(Tree(p, (low,)), Tree(p, (high,))), ((), ()))
        self.assertEqual(looked(Tree(p, (low,)), Tree(p, (high,))), 0)
        more = ("a", (1,))
        self.compare(Tree(p, (low,)), Tree(p, (more, high)))

    def test_leaves_of_one_number_with_unlike_many_facts(self):
        p = 1009
        zero = of_ranks(p, [0], 60)
        numbers = {Tree(p, (fact,)).number: fact for fact in zero}
        pairs = [pair for pair in zip(zero, zero[1:]) if Tree(p, pair).number in numbers]
        for pair in pairs:
            one = (numbers[Tree(p, pair).number],)
            self.compare(Tree(p, pair), Tree(p, one))
            self.assertEqual(looked(Tree(p, pair), Tree(p, one)), 2)
        self.assertGreater(len(pairs), 0)

    def test_a_clash_of_own_facts(self):
        p = 1009
        numbers = {}
        for at in range(3000):
            numbers.setdefault(slow_number(p, ("b", (at,))), []).append(("b", (at,)))
        for facts in numbers.values():
            if len(facts) > 1 and slow_rank(p, facts[0]) > 0:
                one, other = Tree(p, (facts[0],)), Tree(p, (facts[1],))
                self.assertEqual(self.compare(one, other), ((), ()))
                # The nodes are alike, but what lies round the facts has other places.
                self.assertEqual(looked(one, other), 4)

    def test_other_primes(self):
        tree = Tree(1009, (FACTS[0],))
        for call in (unlike, looked):
            self.assertRaises(OtherPrime, call, tree, Tree(1013, (FACTS[0],)))
            self.assertRaises(OtherPrime, call, Tree(1013, ()), Tree(1009, ()))
            for thing in (None, 1009, (), State(S), tree.facts):
                self.assertRaises(OtherPrime, call, tree, thing)
                self.assertRaises(OtherPrime, call, thing, tree)

    def test_the_whole_showing_is_the_slow_one(self):
        for p in PRIMES:
            facts = random_facts(random.Random(p), 40)
            self.assertEqual(shown(Tree(p, facts), WHOLE), slow_shown(p, list(facts), WHOLE))
