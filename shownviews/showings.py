"""Showings of trees for stretches, and what they tell."""

from shownviews.errors import NoRoot, NoShowing
from shownviews.mixing import check_prime, is_fact, is_text, mixed, text_of
from shownviews.parts import Part, part_text, rank_of
from shownviews.stretches import check_stretches, is_in, is_shut
from shownviews.worths import fact_key, is_number, is_rising, is_tuple_of


class Cut:
    """What is told of a leaf or node that is not shown."""

    def __init__(self, number, many):
        self.number = number
        self.many = many


def shown(tree, stretches):
    """The showing of a Tree in which just what is closed to all of the stretches is cut."""
    check_stretches(stretches)
    return showing_of(tree._top, None, None, stretches)


def showing_of(part, ahead, behind, stretches):
    """The showing of a leaf or node that stands between two own facts."""
    if not part.children:
        return ("leaf", part.own)
    told = []
    for child, low, high in part.placed(ahead, behind):
        if is_shut(stretches, low, high):
            told.append(("cut", child.number, child.many))
        else:
            told.append(showing_of(child, low, high, stretches))
    return ("node", tuple(told), part.own)


def is_showing(p, thing):
    """Whether a thing has the form of a showing, whatever the order and the ranks of its facts."""
    if is_tuple_of(thing, 2, 2) and thing[0] == "leaf":
        return are_facts(thing[1])
    if not is_tuple_of(thing, 3, 3) or thing[0] != "node" or not isinstance(thing[1], tuple):
        return False
    if not are_facts(thing[2]) or not thing[2] or len(thing[1]) != len(thing[2]) + 1:
        return False
    return all([is_cut(p, part) or is_showing(p, part) for part in thing[1]])


def is_cut(p, thing):
    if not is_tuple_of(thing, 3, 3) or thing[0] != "cut":
        return False
    return is_number(thing[1]) and thing[1] < p and is_number(thing[2])


def are_facts(thing):
    return isinstance(thing, tuple) and all([is_fact(part) for part in thing])


def facts_in(showing):
    """The list of all facts of a showing, in the order in which they stand there."""
    if showing[0] == "cut":
        return []
    if showing[0] == "leaf":
        return list(showing[1])
    told = []
    for at, child in enumerate(showing[1]):
        told.extend(facts_in(child))
        told.extend(showing[2][at:at + 1])
    return told


def read_part(p, thing):
    """The Part, with Cuts in it, of which a showing tells."""
    if not is_showing(p, thing) or not is_rising([fact_key(fact) for fact in facts_in(thing)]):
        raise NoShowing()
    return part_in(p, thing)


def part_in(p, showing):
    """As read_part, of what has the form and the order of a showing; here the ranks are looked at."""
    if showing[0] == "cut":
        return Cut(showing[1], showing[2])
    children = []
    if showing[0] == "node":
        children = [part_in(p, child) for child in showing[1]]
    part = Part(p, children, [(fact, mixed(p, text_of(fact))) for fact in showing[-1]])
    ranks = [rank_of(number) for number in part.numbers]
    if not all([rank == part.rank for rank in ranks]) or (children and part.rank == 0):
        raise NoShowing()
    if not all([isinstance(child, Cut) or child.rank < part.rank for child in children]):
        raise NoShowing()
    return part


def root_of(p, showing):
    """The pair of the number and of how many facts the tree has of which a showing tells."""
    check_prime(p)
    part = read_part(p, showing)
    return (part.number, part.many)


def check_root(thing):
    if not is_tuple_of(thing, 2, 2) or not is_number(thing[0]) or not is_number(thing[1]):
        raise NoRoot()


def read(p, root, showing, stretches):
    """The ascending tuple of all facts of a showing that are in the stretches, None if it has another root pair, or
    cuts what is not closed to all of them."""
    check_prime(p)
    check_root(root)
    part = read_part(p, showing)
    check_stretches(stretches)
    if (part.number, part.many) != root or not is_enough(part, None, None, stretches):
        return None
    told = [fact for fact in facts_in(showing) if any([is_in(stretch, fact) for stretch in stretches])]
    return tuple(told)


def is_enough(part, ahead, behind, stretches):
    """Whether just children are cut that are closed to all of the stretches."""
    if isinstance(part, Cut):
        return is_shut(stretches, ahead, behind)
    return all([is_enough(child, low, high, stretches) for child, low, high in part.placed(ahead, behind)])


def clash(p, one, other):
    """A pair of unlike texts of one mixing, the first one mixed in the one showing, the second in the other, None
    without, and of showings that have not one root pair. Equal showings may hold one, too."""
    check_prime(p)
    mine = read_part(p, one)
    theirs = read_part(p, other)
    if (mine.number, mine.many) != (theirs.number, theirs.many):
        return None
    found = {}
    for number, text in texts_in(mine):
        found.setdefault(number, {})[text] = True
    for number, text in texts_in(theirs):
        for elder in found.get(number, {}):
            if elder != text:
                return (elder, text)
    return None


def texts_in(part):
    """The pairs (number, text) of all texts that are mixed in a showing, from the root on."""
    if isinstance(part, Cut):
        return []
    told = [(part.number, part_text(part))]
    told.extend([(number, text_of(fact)) for fact, number in part.pairs()])
    for child in part.children:
        told.extend(texts_in(child))
    return told


def is_clash(p, thing):
    """Whether a thing is a pair of unlike texts of one mixing."""
    check_prime(p)
    if not is_tuple_of(thing, 2, 2) or not is_text(thing[0]) or not is_text(thing[1]):
        return False
    return thing[0] != thing[1] and mixed(p, thing[0]) == mixed(p, thing[1])
