"""Letters between houses: what is one, and how a have is answered."""

from shownviews.edits import holds, is_edit, is_life, is_mark
from shownviews.holdings import edit_rank, has_edit
from shownviews.states import State
from shownviews.worths import is_number, is_tuple_of

MOST_EDITS = 20


def is_letter(schema, thing):
    """Whether a thing is a letter of houses of the schema."""
    if not is_tuple_of(thing, 3, 4) or not is_life(thing[1]):
        return False
    if thing[0] == "state":
        return len(thing) == 3 and isinstance(thing[2], State) and thing[2].schema == schema
    if not is_mark(thing[2]):
        return False
    if len(thing) == 3:
        return thing[0] == "have"
    if thing[0] == "edits":
        return is_tuple_of(thing[3], 1, MOST_EDITS) and all([is_edit(schema, edit) for edit in thing[3]])
    return thing[0] == "root" and is_number(thing[3])


def have_of(holding):
    return ("have", holding.life(), holding.state().mark)


def answers_to_have(p, holding, mark):
    """The letters by which a house that holds this answers one that stands at a mark."""
    life = holding.life()
    mine = holding.state().mark
    if not holds(mark, holding.gone()):
        return [("state", life, holding.state())]
    lacked = [edit for edit in holding.kept() if not has_edit(mark, edit)]
    if lacked:
        first = sorted(lacked, key=edit_rank)[:MOST_EDITS]
        return [("edits", life, mine, tuple(first))]
    if mark == mine:
        return [("root", life, mine, holding.root(p))]
    return [] if holds(mine, mark) else [have_of(holding)]
