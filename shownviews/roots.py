"""The trees of States, and the root numbers that their marks and trees have."""

from shownviews.mixing import mixed, numbers_text
from shownviews.ruletexts import rule_text
from shownviews.states import tables, titles
from shownviews.trees import Tree
from shownviews.worths import fact_key


def facts_of(state):
    """The ascending tuple of the facts of a State's tables, and of one for each of its titles."""
    rows = tables(state)
    rules = titles(state)
    told = [(name, row) for name in rows for row in rows[name]]
    told.extend([("rule", (title, rule_text(rules[title]))) for title in rules])
    return tuple(sorted(told, key=fact_key))


def tree_of(p, state):
    """The Tree of all facts that a State's tables and titles tell."""
    return Tree(p, facts_of(state))


def root_text(mark, number, many):
    """The text that is mixed to a root number: that of a mark, and of a tree's number and of how many facts it has."""
    listed = [part for pair in mark for part in pair]
    return f"{numbers_text(listed)};{numbers_text([number, many])}"


def root_number(p, state):
    """The number that hangs on a State's mark, and on what its tables and titles tell, alone."""
    tree = tree_of(p, state)
    return mixed(p, root_text(state.mark, tree.number, tree.many))
