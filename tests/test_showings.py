"""Points 5.3 and 5.4: stretches, showings, what they tell, and clashes."""

import itertools
import random
import unittest

from shownviews.errors import NoPrime, NoRoot, NoShowing, NoStretch
from shownviews.mixing import mix
from shownviews.showings import clash, is_clash, read, root_of, shown
from shownviews.states import State
from shownviews.trees import Tree, with_fact
from tests.helpers import ANY, S, odd_things, parts_put_otherwise, unchanged
from tests.slowly import slow_in, slow_mix, slow_number, slow_rank, slow_root, slow_shown, slow_texts
from tests.test_mixing import FACTS, NOT_FACTS, is_fact, not_primes
from tests.test_trees import PRIMES, WHOLE, in_order, of_ranks, random_facts

STRETCHES = [("b", None, None), ("b", (), ()), ("b", (10,), (30,)), ("b", (10, "y"), (10, "y")), ("b", (20,), None),
             ("b", None, (20, "a")), ("b", (30,), (10,)), ("b", (15, "y", "z", 1, 2), (25, "y", "z", 1, 2)), ("b", ("",), None),
             ("b", None, ("",)), ("b", None, (-1,)), ("link", ("a",), ("a",)), ("link", ("b", 1), ("c",)),
             ("link", None, ("a", 10 ** 30)), ("rule", None, None), ("rule", ("near",), ("near", "z")), ("none", None, None),
             ("a", None, None), ("zz", (1,), (2,)), ("b", (10 ** 39,), None), ("x", ("~",), ())]


def roots(tree):
    return (tree.number, tree.many)


def is_stretch(thing):
    """Whether one of the things of all kinds, which have few words that are names, is a stretch."""
    return type(thing) is tuple and len(thing) == 3 and type(thing[0]) is str and 1 <= len(thing[0]) <= 8 and all(
        bound is None or bound == () and type(bound) is tuple for bound in thing[1:])


NOT_STRETCHES = [("", None, None), ("B", None, None), (None, None, None), ("b", None), ("b", None, None, None), ["b", None, None],
                 ("b", [], None), ("b", None, [1]), ("b", 1, None), ("b", None, "a"), ("b", (None,), None),
                 ("b", (True,), None), ("b", ("\n",), None), ("b", ("a" * 21,), None), ("b", (1,) * 6, None),
                 ("b", None, (1,) * 6), ("b", (ANY,), None), ("abcdefghi", None, None), (b"b", None, None), ("b", ((),), None)]


class Shown(unittest.TestCase):
    def test_small_ones(self):
        self.assertEqual(shown(Tree(1009, ()), ()), ("leaf", ()))
        self.assertEqual(shown(Tree(1009, (FACTS[0],)), (("a", None, None),))[-1], (FACTS[0],))

    def test_by_chance(self):
        for at, p in enumerate(PRIMES):
            chance = random.Random(at)
            for many in (2, 20, 60):
                tree = Tree(p, random_facts(chance, many))
                for _ in range(25):
                    stretches = tuple(chance.sample(STRETCHES, chance.choice([0, 1, 1, 1, 2, 3])))
                    self.compare(tree, stretches)

    def compare(self, tree, stretches):
        told = shown(tree, stretches)
        self.assertEqual(told, slow_shown(tree.p, list(tree.facts), stretches))
        self.assertEqual(root_of(tree.p, told), roots(tree))
        wanted = tuple(fact for fact in tree.facts if any(slow_in(stretch, fact) for stretch in stretches))
        self.assertEqual(read(tree.p, roots(tree), told, stretches), wanted)
        # What is shown for these tells them also one by one.
        for stretch in stretches:
            wanted = tuple(fact for fact in tree.facts if slow_in(stretch, fact))
            self.assertEqual(read(tree.p, roots(tree), told, (stretch,)), wanted)

    def test_ranks(self):
        p = 65537
        for facts in (of_ranks(p, [0], 20), of_ranks(p, [0, 1, 2, 3, 4, 5, 6], 2), of_ranks(p, [5, 6], 3)):
            for stretch in STRETCHES:
                self.compare(Tree(p, facts), (stretch,))
                self.compare(Tree(p, facts), (stretch, stretch, STRETCHES[2]))

    def test_all_pairs_of_bounds(self):
        p = 65537
        tree = Tree(p, in_order(("b", (n, word)) for n in range(6) for word in ("", "x", 1, 2)))
        bounds = [None, (), (2,), (3, "x"), (3, 1), (4, "x", "y"), (9,), ("",)]
        for low, high in itertools.product(bounds, repeat=2):
            self.compare(tree, (("b", low, high),))
            self.compare(tree, (("b", low, high), ("b", (5,), (5,))))

    def test_no_stretch_cuts_all_children(self):
        tree = Tree(1009, random_facts(random.Random(2), 40))
        told = shown(tree, ())
        self.assertEqual(told[0], "node")
        self.assertEqual({child[0] for child in told[1]}, {"cut"})
        self.assertEqual(read(1009, roots(tree), told, ()), ())

    def test_few_are_shown(self):
        p = 2 ** 61 - 1
        tree = Tree(p, random_facts(random.Random(5), 600))
        name, row = tree.facts[300]
        told = shown(tree, ((name, row, row),))
        self.assertEqual(read(p, roots(tree), told, ((name, row, row),)), ((name, row),))
        self.assertLess(len(repr(told)), len(repr(shown(tree, WHOLE))) // 5)

    def test_rules_with_long_texts(self):
        facts = in_order(("rule", ("r" + end, "x" * 30 + "\n'~" + end)) for end in "abcdefghijklmnop")
        self.compare(Tree(1009, facts), (("rule", None, None),))
        self.compare(Tree(1009, facts), (("rule", ("rc",), ("rf", "x" * 20)),))

    def test_no_stretch(self):
        tree = Tree(1009, (FACTS[0],))
        showing = shown(tree, ())
        for thing in [*odd_things(), *NOT_STRETCHES, tree]:
            wrong = [(thing,), (("b", None, None), thing), [thing], ("b", thing, None), (("b", thing, None, None),)]
            if not is_stretch(thing):
                self.no_stretch(tree, showing, *wrong)
            if type(thing) is not tuple or not all(is_stretch(part) for part in thing):
                self.no_stretch(tree, showing, thing)
            if thing is not None and (type(thing) is not tuple or len(thing) > 5):
                self.no_stretch(tree, showing, (("b", thing, None),), (("b", None, thing),))
        self.no_stretch(tree, showing, [], ("b", None, None), None, {("b", None, None): 1})

    def no_stretch(self, tree, showing, *things):
        for thing in things:
            self.assertRaises(NoStretch, shown, tree, thing)
            self.assertRaises(NoStretch, read, tree.p, roots(tree), showing, thing)

    def test_nothing_is_changed(self):
        tree = Tree(1009, random_facts(random.Random(2), 10))
        told = unchanged(self, shown, tree, tuple(STRETCHES))
        unchanged(self, root_of, 1009, told)
        unchanged(self, read, 1009, roots(tree), told, tuple(STRETCHES))


class Showings(unittest.TestCase):
    p = 65537
    tree = Tree(p, of_ranks(p, [0, 1, 2], 4))
    whole = shown(tree, WHOLE)

    def no_showing(self, *things, p=p):
        for thing in things:
            self.assertRaises(NoShowing, root_of, p, thing)
            self.assertRaises(NoShowing, read, p, (1, 1), thing, None)
            self.assertRaises(NoShowing, clash, p, thing, self.whole)
            self.assertRaises(NoShowing, clash, p, self.whole, thing)

    def test_forms(self):
        word, children, own = self.whole
        self.no_showing(None, (), ("leaf",), ("leaf", [FACTS[0]]), ["leaf", ()], ("leaf", (), ()), ("Leaf", ()), ("leaf", None),
                        ("cut", 1, 1), ("node", (), ()), ("node", (("leaf", ()),), ()), ("node", children, ()),
                        ("node", children[1:], own), ("node", children, own[1:]), ("node", list(children), own),
                        ("node", children, list(own)), ("node", children), ("node", children, own, ()),
                        ("leaf", children, own), ("cut", children, own), ("node", (None, *children[1:]), own),
                        ("node", (*children, ("leaf", ())), own), ("node", (self.whole,), ()), ("leaf", own))

    def test_cuts(self):
        _, children, own = self.whole
        told = []
        for number, many in ((0, 0), (self.p - 1, 10 ** 39), (5, 1)):
            told.append(("node", (("cut", number, many), *children[1:]), own))
            self.assertEqual(root_of(self.p, told[-1]), slow_root(self.p, told[-1]))
        for cut in (("cut", self.p, 1), ("cut", -1, 1), ("cut", 1, -1), ("cut", True, 1), ("cut", 1, False), ("cut", 1),
                    ("cut", 1, 1, 1), ("cut", "1", 1), ("cut", 1, None), ["cut", 1, 1], ("cut", 10 ** 39, 1)):
            self.no_showing(("node", (cut, *children[1:]), own))

    def test_facts_that_are_none_or_not_ascending(self):
        for fact in NOT_FACTS:
            self.no_showing(("leaf", (fact,)))
        zero = of_ranks(self.p, [0], 6)
        one = of_ranks(self.p, [1], 2)
        self.no_showing(("leaf", zero[::-1]), ("leaf", zero + zero[-1:]), ("leaf", zero[:1] * 2))
        _, children, own = self.whole
        self.no_showing(("node", children[::-1], own), ("node", children, own[::-1]),
                        ("node", (("leaf", ()), ("leaf", (own[0],))), own[:1]))
        low, high = [fact for fact in zero if fact < one[0]], [fact for fact in zero if fact > one[0]]
        self.no_showing(("node", (("leaf", tuple(high)), ("leaf", tuple(low))), one[:1]))
        self.assertEqual(root_of(self.p, ("node", (("leaf", tuple(low)), ("leaf", tuple(high))), one[:1])),
                         roots(Tree(self.p, in_order([*zero, one[0]]))))
        # Facts far apart, behind something cut, must be ascending, too.
        self.no_showing(("node", (("leaf", ()), ("cut", 1, 1), ("leaf", ())), one[::-1]))
        root_of(self.p, ("node", (("leaf", ()), ("cut", 1, 1), ("leaf", ())), one))

    def test_ranks_that_are_not_so(self):
        p = self.p
        zero, one, two = of_ranks(p, [0], 1)[0], of_ranks(p, [1], 1)[0], of_ranks(p, [2], 1)[0]
        leaf = ("leaf", ())
        self.no_showing(("leaf", (one,)), ("leaf", in_order([zero, one])), ("node", (leaf, leaf), (zero,)),
                        ("node", (leaf, leaf, leaf), in_order([one, two])),
                        ("node", (("cut", 1, 1), ("cut", 1, 1)), (zero,)))
        root_of(p, ("node", (("cut", 1, 1), ("cut", 1, 1)), (one,)))
        for own, child in ((one, two), (one, one), (two, two)):
            for other in of_ranks(p, [slow_rank(p, child)], 3):
                if other != own:
                    inner = ("node", (leaf, leaf), (other,))
                    self.no_showing(("node", (inner, leaf) if other < own else (leaf, inner), (own,)))
        inner = ("node", (leaf, leaf), (one,))
        self.assertEqual(root_of(p, ("node", (inner, leaf) if one < two else (leaf, inner), (two,))),
                         roots(Tree(p, in_order([one, two]))))
        # By another prime the ranks are others.
        self.no_showing(self.whole, p=65539)

    def test_things_of_all_kinds(self):
        _, children, own = self.whole
        for thing in odd_things():
            if thing != () or type(thing) is not tuple:
                self.no_showing(thing, ("leaf", thing), ("node", thing, own), ("node", children, thing),
                                ("node", (thing, *children[1:]), own))
            self.no_showing(("leaf", (thing,)), (thing, ()), (thing, children, own), ("node", (("cut", thing, 1.0),), own))
            if type(thing) is not int or not 0 <= thing < self.p:
                self.no_showing(("node", (("cut", thing, 1), *children[1:]), own))
        deep = self.whole
        for _ in range(14):
            deep = ("node", (deep, ("leaf", ())), own[:1])
            self.no_showing(deep)

    def test_parts_put_otherwise(self):
        """No part can be put otherwise without another root pair, but where two texts have one mixing."""
        p = 2 ** 61 - 1
        tree = Tree(p, random_facts(random.Random(8), 14))
        whole = shown(tree, WHOLE[2:])
        seen = {"told": 0, "not": 0}
        for thing in parts_put_otherwise(whole, [(), None, True, 0, 1, "b", ("leaf", ()), ("cut", 1, 1), "cut"]):
            if repr(thing) == repr(whole):
                continue
            try:
                told = root_of(p, thing)
            except NoShowing:
                seen["not"] += 1
            else:
                self.assertNotEqual(told, roots(tree))
                self.assertIsNone(read(p, roots(tree), thing, ()))
                self.assertEqual(told, slow_root(p, thing))
                seen["told"] += 1
        self.assertGreater(min(seen.values()), 9, seen)

    def test_errors_in_this_order(self):
        self.assertRaises(NoPrime, root_of, 999, None)
        self.assertRaises(NoPrime, read, 999, None, None, None)
        self.assertRaises(NoRoot, read, self.p, None, None, None)
        self.assertRaises(NoShowing, read, self.p, (1, 2), None, None)
        self.assertRaises(NoStretch, read, self.p, (1, 2), self.whole, None)
        self.assertRaises(NoPrime, clash, 999, None, None)
        self.assertRaises(NoPrime, is_clash, 999, None)
        for thing in not_primes():
            self.assertRaises(NoPrime, root_of, thing, self.whole)
            self.assertRaises(NoPrime, read, thing, (1, 2), self.whole, ())
            self.assertRaises(NoPrime, clash, thing, self.whole, self.whole)
            self.assertRaises(NoPrime, is_clash, thing, ("a", "b"))

    def test_no_root(self):
        for thing in [*odd_things(), (1,), (1, 2, 3), [1, 2], (True, 1), (1, False), (-1, 1), (1, -1), ("1", 1), (1, None)]:
            if type(thing) is not tuple or len(thing) != 2 or not all(type(n) is int and n >= 0 for n in thing):
                self.assertRaises(NoRoot, read, self.p, thing, self.whole, ())
            else:
                self.assertIsNone(read(self.p, thing, self.whole, ()))


class Read(unittest.TestCase):
    def test_other_root_pairs(self):
        tree = Tree(1009, random_facts(random.Random(4), 10))
        told = shown(tree, WHOLE)
        self.assertEqual(read(1009, roots(tree), told, WHOLE), tree.facts)
        for root in ((tree.number + 1, tree.many), (tree.number, tree.many + 1), (tree.many, tree.number), (0, 0)):
            self.assertIsNone(read(1009, root, told, WHOLE))

    def test_what_is_cut_but_not_closed(self):
        tree = Tree(65537, of_ranks(65537, [0, 1, 2], 5))
        for name, row in tree.facts:
            here = (("b", row, row),)
            told = shown(tree, here)
            self.assertEqual(read(65537, roots(tree), told, here), ((name, row),))
            if slow_rank(65537, (name, row)) == 0:
                self.assertIsNone(read(65537, roots(tree), shown(tree, ()), here))
            for other in tree.facts:
                there = (("b", other[1], other[1]),)
                found = read(65537, roots(tree), told, there)
                self.assertIn(found, (None, (other,)))
                wanted = slow_shown(65537, list(tree.facts), there)
                if found is None:
                    self.assertNotEqual(told, wanted)

    def test_a_showing_may_show_more(self):
        tree = Tree(65537, of_ranks(65537, [0, 1, 2], 5))
        for stretch in STRETCHES:
            wanted = tuple(fact for fact in tree.facts if slow_in(stretch, fact))
            self.assertEqual(read(65537, roots(tree), shown(tree, WHOLE), (stretch,)), wanted)
            self.assertEqual(read(65537, roots(tree), shown(tree, (stretch, *WHOLE)), ()), ())

    def test_the_fact_of_showings(self):
        """Each part cut or shown: what is read is all, or None."""
        p = 65537
        tree = Tree(p, of_ranks(p, [0, 1, 2], 2))
        told = {True: 0, False: 0}
        for showing in self.all_showings(p, shown(tree, WHOLE)):
            self.assertEqual(root_of(p, showing), roots(tree))
            for stretch in (("b", None, None), ("b", tree.facts[2][1], tree.facts[3][1]), ("a", None, None), ("c", (), ())):
                found = read(p, roots(tree), showing, (stretch,))
                told[found is None] += 1
                if found is not None:
                    self.assertEqual(found, tuple(fact for fact in tree.facts if slow_in(stretch, fact)))
        self.assertGreater(min(told.values()), 10, told)

    def all_showings(self, p, showing, top=True):
        """All ways to cut children of a whole showing."""
        told = [] if top else [("cut", *slow_root(p, showing))]
        if showing[0] == "leaf":
            return told + [showing]
        lots = [self.all_showings(p, child, False) for child in showing[1]]
        return told + [("node", children, showing[2]) for children in itertools.islice(itertools.product(*lots), 300)]


class Clashes(unittest.TestCase):
    def told(self, p, one, other):
        """A clash of two showings, compared with its words."""
        found = clash(p, one, other)
        mine, theirs = slow_texts(p, one), slow_texts(p, other)
        pairs = [(a, b) for a in mine for b in theirs if a != b and slow_mix(p, a) == slow_mix(p, b)]
        if found is None:
            self.assertEqual(pairs, [])
        else:
            self.assertIn(found, pairs)
            self.assertIs(is_clash(p, found), True)
        return found

    def twins(self, p, rank, seed):
        """Two facts of one number and this rank, and others that stand ahead of both or behind both."""
        numbers = {}
        for at in itertools.count(seed):
            fact = ("b", (at,))
            numbers.setdefault(slow_number(p, fact), []).append(fact)
            if slow_rank(p, fact) == rank and len(numbers[slow_number(p, fact)]) == 2:
                return numbers[slow_number(p, fact)]

    def test_facts_of_one_number(self):
        seen = 0
        for p in (1009, 1013, 4099):
            for rank in (0, 1, 2):
                low, high = self.twins(p, rank, 17 * rank)
                chance = random.Random(rank)
                more = [("a", (chance.randrange(99),)) for _ in range(9)] + [("c", (n, "~'")) for n in range(chance.randrange(9))]
                one, other = Tree(p, in_order([*more, low])), Tree(p, in_order([*more, high]))
                self.assertEqual(roots(one), roots(other))
                for stretches in (WHOLE + (("c", None, None),), (("b", None, None),)):
                    mine, theirs = shown(one, stretches), shown(other, stretches)
                    self.assertNotEqual(read(p, roots(one), mine, stretches), read(p, roots(one), theirs, stretches))
                    self.assertIsNotNone(self.told(p, mine, theirs))
                    self.assertIsNotNone(self.told(p, theirs, mine))
                    self.told(p, mine, mine)
                    seen += 1
        self.assertEqual(seen, 18)

    def test_equal_showings(self):
        """A showing has a clash with itself just if two unlike texts of one mixing are mixed in it."""
        leaf = ("leaf", (("a", (32,)), ("a", (48,))))
        self.assertIn(self.told(1009, leaf, leaf), (("a(32)", "a(48)"), ("a(48)", "a(32)")))
        self.assertIsNone(self.told(1009, ("leaf", leaf[1][:1]), ("leaf", leaf[1][:1])))
        found = {True: 0, False: 0}
        for rank in (0, 1, 2):
            low, high = self.twins(1013, rank, 5)
            for more in ((), (("c", (1,)),), tuple(("a", (n,)) for n in range(4))):
                both = shown(Tree(1013, in_order([*more, low, high])), WHOLE)
                self.assertIsNotNone(self.told(1013, both, both))
                # What is cut is not mixed.
                cut = shown(Tree(1013, in_order([*more, low, high])), (("none", None, None),))
                found[self.told(1013, cut, cut) is None] += 1
        for seed in range(30):
            tree = Tree(1009, random_facts(random.Random(seed), 12))
            for stretches in (WHOLE, (STRETCHES[seed % len(STRETCHES)],)):
                one = shown(tree, stretches)
                found[self.told(1009, one, one) is None] += 1
        self.assertGreater(min(found.values()), 3, found)

    def test_leaves_of_one_mixing(self):
        p = 1009
        zero = [fact for fact in (("b", (at,)) for at in range(200)) if slow_rank(p, fact) == 0]
        lots = {}
        for pair in itertools.combinations(zero, 2):
            tree = Tree(p, pair)
            if tree.number in lots and not set(lots[tree.number].facts) & set(pair):
                other = lots[tree.number]
                break
            lots[tree.number] = tree
        texts = self.told(p, shown(tree, WHOLE), shown(other, WHOLE))
        self.assertEqual(texts, tuple(slow_texts(p, shown(one, WHOLE))[-1] for one in (tree, other)))
        self.assertEqual(texts[0][:2], "1,")

    def test_by_chance_with_small_primes(self):
        found = {True: 0, False: 0}
        for seed in range(60):
            chance = random.Random(seed)
            p = chance.choice([1009, 1013, 2 ** 61 - 1])
            tree = Tree(p, random_facts(chance, chance.choice([3, 8, 20])))
            one = shown(tree, tuple(chance.sample(STRETCHES, 2)))
            other = shown(tree, tuple(chance.sample(STRETCHES, 2)))
            found[self.told(p, one, other) is None] += 1
        self.assertGreater(min(found.values()), 3, found)

    def test_none_without_and_for_other_root_pairs(self):
        p = 2 ** 61 - 1
        tree = Tree(p, random_facts(random.Random(1), 30))
        more = with_fact(tree, ("zz", (1,)))
        for stretches in (WHOLE, (), (STRETCHES[2],)):
            self.assertIsNone(clash(p, shown(tree, stretches), shown(tree, stretches)))
            self.assertIsNone(clash(p, shown(tree, stretches), shown(tree, WHOLE)))
            self.assertIsNone(clash(p, shown(tree, stretches), shown(more, stretches)))
        low, high = self.twins(1009, 0, 0)
        for one, other in (((low,), ()), ((low,), (("a", (1,)), high))):
            self.assertIsNone(clash(1009, shown(Tree(1009, one), WHOLE), shown(Tree(1009, other), WHOLE)))

    def test_is_clash(self):
        p = 1009
        numbers = {}
        for at in range(3000):
            numbers.setdefault(mix(p, str(at)), []).append(str(at))
        one, other = next(texts for texts in numbers.values() if len(texts) > 1)[:2]
        self.assertIs(is_clash(p, (one, other)), True)
        self.assertIs(is_clash(p, (other, one)), True)
        for thing in ((one, one), [one, other], (one,), (one, other, one), (one, other + "0"), (one, None), (one, int(other)),
                      {one: other}, one + other, None, (one + "\t", other + "\t"), ((one,), (other,))):
            self.assertIs(is_clash(p, thing), False)
        self.assertIs(is_clash(1013, (one, other)), mix(1013, one) == mix(1013, other))
        for thing in [*odd_things(), State(S)]:
            self.assertIs(is_clash(p, thing), False)
            self.assertIs(is_clash(p, (one, thing)), False)
            self.assertIs(is_clash(p, (thing, one)), False)
        self.assertFalse(is_fact((one, other)))
