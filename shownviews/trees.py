"""Trees of facts, whose shape hangs on their facts alone."""

from shownviews.errors import Here, NoFacts, NotHere, OtherPrime
from shownviews.mixing import check_fact, check_prime, is_fact
from shownviews.parts import Reckoner, parts_by_place, place_among
from shownviews.worths import fact_key, is_rising


class Tree:
    """The tree of some facts modulo p. It never changes: with_fact and without make new ones."""

    def __init__(self, p, facts):
        check_prime(p)
        check_facts(facts)
        reckoner = Reckoner(p)
        self._top = reckoner.tree([reckoner.item(fact) for fact in facts])
        self._many_made = reckoner.made
        self.p = p
        self.facts = facts
        self.many = self._top.many
        self.number = self._top.number

    def __eq__(self, other):
        return isinstance(other, Tree) and self.p == other.p and self.facts == other.facts


def check_facts(thing):
    if not isinstance(thing, tuple) or not all([is_fact(part) for part in thing]):
        raise NoFacts()
    if not is_rising([fact_key(fact) for fact in thing]):
        raise NoFacts()


def tree_of_top(p, facts, top, reckoner):
    """The Tree of some facts whose top is reckoned already."""
    tree = Tree(p, ())
    tree._top = top
    tree._many_made = reckoner.made
    tree.facts = facts
    tree.many = top.many
    tree.number = top.number
    return tree


def with_fact(tree, fact):
    """The Tree with one fact more."""
    check_fact(fact)
    at = place_among(tree.facts, fact)
    if tree.facts[at:at + 1] == (fact,):
        raise Here()
    reckoner = Reckoner(tree.p)
    top = reckoner.with_item(tree._top, reckoner.item(fact))
    return tree_of_top(tree.p, (*tree.facts[:at], fact, *tree.facts[at:]), top, reckoner)


def without(tree, fact):
    """The Tree with one fact less."""
    check_fact(fact)
    at = place_among(tree.facts, fact)
    if tree.facts[at:at + 1] != (fact,):
        raise NotHere()
    reckoner = Reckoner(tree.p)
    top = reckoner.without(tree._top, fact)
    return tree_of_top(tree.p, (*tree.facts[:at], *tree.facts[at + 1:]), top, reckoner)


def made(tree):
    """How many leaves and nodes were reckoned for a Tree: those that the elder one has not."""
    return tree._many_made


def unlike(one, other):
    """The pair of the ascending tuples of the facts that just the one, just the other has."""
    mine, theirs = unlike_parts(one, other)
    return (own_facts_missing(mine, other), own_facts_missing(theirs, one))


def own_facts_missing(parts, tree):
    """The ascending tuple of the own facts of some leaves and nodes that a tree has not."""
    there = {fact: True for fact in tree.facts}
    told = [fact for part in parts for fact in part.own if fact not in there]
    return tuple(sorted(told, key=fact_key))


def unlike_parts(one, other):
    """The pair of the lists of the leaves and nodes of each of two Trees that the other one has not."""
    if not isinstance(one, Tree) or not isinstance(other, Tree) or one.p != other.p:
        raise OtherPrime()
    mine = parts_by_place(one._top)
    theirs = parts_by_place(other._top)
    return (parts_missing(mine, theirs), parts_missing(theirs, mine))


def parts_missing(parts, others):
    """Those of the parts that the others have not at the same place, with the same number and as many facts."""
    return [parts[place] for place in parts if place not in others or not are_alike(parts[place], others[place])]


def are_alike(part, other):
    return part.number == other.number and part.many == other.many


def looked(one, other):
    """How many leaves and nodes of two Trees the other one has not."""
    mine, theirs = unlike_parts(one, other)
    return len(mine) + len(theirs)
