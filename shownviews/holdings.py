"""What a house has in mind, and the first bodies and entries by which it is written and made anew."""

from shownviews.deedtexts import MOST_DIGITS, mark_in, mark_text
from shownviews.edits import both, holds, is_life, is_mark, number_in
from shownviews.errors import NoText
from shownviews.readers import NotRead, Reader, need, read_number
from shownviews.roots import root_number
from shownviews.states import State, joined, with_edit
from shownviews.texts import edit_text, read_edit, read_state, state_text
from shownviews.worths import is_rising


class Holding:
    """The life and the State of a house, the mark of the edits that it does not keep any more, and those it keeps."""

    def __init__(self, life, state, gone, edits):
        self._life = life
        self._state = state
        self._gone = gone
        self._edits = {edit[:2]: edit for edit in edits}
        self._root = None

    def life(self):
        return self._life

    def state(self):
        return self._state

    def gone(self):
        return self._gone

    def kept(self):
        """The ascending list of the edits that are kept."""
        return [self._edits[key] for key in sorted(self._edits)]

    def root(self, p):
        """The root number of the State, always by one p."""
        if self._root is None:
            self._root = root_number(p, self._state)
        return self._root

    def do_edit(self, edit):
        """Does an edit that can be done."""
        self._become(with_edit(self._state, edit))
        self._edits[edit[:2]] = edit

    def join(self, state):
        """Joins a State, of whose edits none is known by itself."""
        self._become(joined(self._state, state))
        self.forget(state.mark)

    def forget(self, mark):
        """Keeps no edits any more for which a mark, which the State's one holds, stands."""
        self._gone = both(self._gone, mark)
        edits = self._edits
        self._edits = {key: edits[key] for key in edits if not has_edit(self._gone, edits[key])}

    def _become(self, state):
        self._state = state
        self._root = None


def has_edit(mark, edit):
    """Whether a mark stands for the life and number of an edit."""
    return number_in(mark, edit[0]) >= edit[1]


def can_be_done(mark, edit):
    """Whether an edit is the next one of its life, and saw nothing that the mark lacks."""
    return not has_edit(mark, edit) and holds(mark, edit[3])


def edit_rank(edit):
    """Edits come by their heights, then by their lives and numbers."""
    return (edit[2], edit[0], edit[1])


def piece(text):
    return f"{len(text)}:{text}"


def first_body(holding):
    """The body from which the holding can be made anew."""
    told = [str(holding.life()), state_text(holding.state()), mark_text(holding.gone())]
    told.extend([edit_text(edit) for edit in holding.kept()])
    return "".join([piece(text) for text in told])


def holding_of(schema, body):
    """The Holding of a first body, None for what is none."""
    try:
        pieces = pieces_in(body)
        need(len(pieces) >= 3)
        return holding_in(schema, pieces)
    except (NotRead, NoText):
        return None


def pieces_in(text):
    """The list of the texts of which a text is the pieces."""
    reader = Reader(text)
    told = []
    while not reader.is_done():
        many = read_number(reader, MOST_DIGITS)
        reader.take(":")
        told.append(reader.take_many(many))
    # Needless zeros are read, too.
    need("".join([piece(part) for part in told]) == text)
    return told


def holding_in(schema, pieces):
    reader = Reader(pieces[0])
    life = read_number(reader, MOST_DIGITS)
    need(is_life(life) and str(life) == pieces[0])
    state = read_state(schema, pieces[1])
    gone = mark_of(pieces[2])
    need(holds(state.mark, gone))
    edits = [read_edit(schema, text) for text in pieces[3:]]
    need(is_rising([edit[:2] for edit in edits]))
    need(all([has_edit(state.mark, edit) and not has_edit(gone, edit) for edit in edits]))
    return Holding(life, state, gone, edits)


def mark_of(text):
    """The mark of just this text."""
    mark = mark_in(Reader(text))
    need(is_mark(mark) and mark_text(mark) == text)
    return mark


def is_entry_done(schema, holding, entry):
    """Does what an entry says, and tells whether it is one that can be done."""
    word, _, text = entry.partition(" ")
    try:
        if word in ("mine", "came"):
            edit = read_edit(schema, text)
            need((word == "mine") == (edit[0] == holding.life()) and can_be_done(holding.state().mark, edit))
            holding.do_edit(edit)
        elif word == "gone":
            mark = mark_of(text)
            need(holds(holding.state().mark, mark))
            holding.forget(mark)
        else:
            need(word == "state")
            holding.join(read_state(schema, text))
    except (NotRead, NoText):
        return False
    return True


def fresh_holding(life, schema):
    return Holding(life, State(schema), (), [])
