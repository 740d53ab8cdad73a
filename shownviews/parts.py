"""The leaves and nodes of trees: what they are made of, and how they are parted and put together."""

from shownviews.mixing import mixed, numbers_text, text_of
from shownviews.worths import fact_key

GREATEST_RANK = 6
LEAF = 1
NODE = 2


def rank_of(number):
    """The rank of a fact of this number."""
    rank = 0
    left = number + 1
    while rank < GREATEST_RANK and left % 4 == 0:
        rank += 1
        left = left // 4
    return rank


def place_among(facts, fact):
    """How many of some facts, ascending, stand ahead of a fact."""
    key = fact_key(fact)
    low = 0
    high = len(facts)
    while low < high:
        middle = (low + high) // 2
        if fact_key(facts[middle]) < key:
            low = middle + 1
        else:
            high = middle
    return low


class Part:
    """A leaf, or a node with children; it never changes.

    Own are all facts of a leaf, and those of a node that stand between its children; numbers are theirs.
    """

    def __init__(self, p, children, items):
        self.children = tuple(children)
        self.own = tuple([fact for fact, _ in items])
        self.numbers = tuple([number for _, number in items])
        self.rank = rank_of(self.numbers[0]) if children else 0
        self.many = len(items) + sum([child.many for child in children])
        self.number = mixed(p, part_text(self))

    def pairs(self):
        """The list of the pairs of the own facts and their numbers."""
        return list(zip(self.own, self.numbers))

    def placed(self, ahead, behind):
        """The triples (child, the fact next ahead of it, that next behind it), None for no fact, where these two stand
        round the part itself."""
        bounds = [ahead, *self.own, behind]
        return list(zip(self.children, bounds, bounds[1:]))


def part_text(part):
    """The text of the list that is mixed to a part's number."""
    if not part.children:
        return numbers_text([LEAF, *part.numbers])
    told = [NODE]
    for at, child in enumerate(part.children):
        told.extend([child.number, child.many, *part.numbers[at:at + 1]])
    return numbers_text(told)


class Reckoner:
    """Makes leaves and nodes with their numbers, and counts them. Items are pairs of facts and their numbers."""

    def __init__(self, p):
        self.made = 0
        self._p = p

    def item(self, fact):
        return (fact, mixed(self._p, text_of(fact)))

    def part(self, children, items):
        """The leaf, where there are no children, or the node of them and its own items."""
        self.made += 1
        return Part(self._p, children, items)

    def tree(self, items):
        """The tree of some items, ascending."""
        rank = max([0] + [rank_of(number) for _, number in items])
        if rank == 0:
            return self.part([], items)
        places = [at for at, item in enumerate(items) if rank_of(item[1]) == rank]
        starts = [0] + [at + 1 for at in places]
        children = [self.tree(items[start:end]) for start, end in zip(starts, [*places, len(items)])]
        return self.part(children, [items[at] for at in places])

    def with_item(self, part, item):
        """The tree of the items of one and of one more."""
        rank = rank_of(item[1])
        if rank > part.rank:
            return self.part(self.parted(part, item[0]), [item])
        at = place_among(part.own, item[0])
        items = part.pairs()
        if rank == part.rank:
            between = self.parted(part.children[at], item[0]) if part.children else []
            items = [*items[:at], item, *items[at:]]
        else:
            between = [self.with_item(part.children[at], item)]
        return self.part([*part.children[:at], *between, *part.children[at + 1:]], items)

    def parted(self, part, fact):
        """The list of the tree of what stands ahead of a fact and of that of what stands behind it."""
        at = place_among(part.own, fact)
        items = part.pairs()
        if not part.children:
            return [self.part([], items[:at]), self.part([], items[at:])]
        low, high = self.parted(part.children[at], fact)
        # On a side without own items what was parted below stands in the place of the part.
        if at > 0:
            low = self.part([*part.children[:at], low], items[:at])
        if at < len(items):
            high = self.part([high, *part.children[at + 1:]], items[at:])
        return [low, high]

    def without(self, part, fact):
        """The tree of the items of one but for a fact that stands in it."""
        at = place_among(part.own, fact)
        items = part.pairs()
        if part.own[at:at + 1] != (fact,):
            inner = self.without(part.children[at], fact)
            return self.part([*part.children[:at], inner, *part.children[at + 1:]], items)
        left = [*items[:at], *items[at + 1:]]
        if not part.children:
            return self.part([], left)
        middle = self.grown(part.children[at], part.children[at + 1])
        if not left:
            return middle
        return self.part([*part.children[:at], middle, *part.children[at + 2:]], left)

    def grown(self, low, high):
        """The tree of the items of two trees, the one ahead of the other."""
        if low.rank == 0 and high.rank == 0:
            return self.part([], low.pairs() + high.pairs())
        if low.rank > high.rank:
            return self.part([*low.children[:-1], self.grown(low.children[-1], high)], low.pairs())
        if low.rank < high.rank:
            return self.part([self.grown(low, high.children[0]), *high.children[1:]], high.pairs())
        middle = self.grown(low.children[-1], high.children[0])
        return self.part([*low.children[:-1], middle, *high.children[1:]], low.pairs() + high.pairs())


def parts_by_place(top):
    """From the places, pairs of the own facts next ahead and next behind, to the leaves and nodes there."""
    told = {}
    waiting = [(top, None, None)]
    while waiting:
        part, ahead, behind = waiting.pop()
        told[(ahead, behind)] = part
        waiting.extend(part.placed(ahead, behind))
    return told
