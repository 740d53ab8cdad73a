"""Desks, at which lines of text lead a State and ask it."""

from shownviews.books import bar_of
from shownviews.deedtexts import deed_in, deed_text, mark_text
from shownviews.desklines import (NONE, fact_of, lacks_text, parted, pattern_and_rest, pattern_of, rows_text)
from shownviews.disks import is_line
from shownviews.edits import is_deed
from shownviews.errors import NoLine, NoText
from shownviews.lots import answer
from shownviews.mixing import check_prime
from shownviews.papers import answer_of, cost, judge
from shownviews.proofs import lacks, proof
from shownviews.readers import NotRead, Reader
from shownviews.roots import root_number, tree_of
from shownviews.states import State, joined, next_edit, tables, titles, with_edit
from shownviews.texts import read_edit, read_state, state_text
from shownviews.things import packed, unpacked

DEEDS = ("put", "take", "add", "bring", "drop", "rule", "unrule")
LONE_WORDS = ("mark", "root", "facts", "text")
ASKING_WORDS = ("ask", "paper", "judge", "cost", "why", "lacks")
LEADING_WORDS = ("join", "edits")
PLAIN = ()
LIFE = 1


class Desk:
    """A State, led and asked by lines; its own edits are those of the first life."""

    def __init__(self, schema, p):
        self._state = State(schema)
        check_prime(p)
        self._p = p
        self._lines = []

    def tell(self, line):
        """Does one line, and returns what there is to say of it."""
        if not is_line(line):
            raise NoLine()
        word, blank, rest = line.partition(" ")
        if word in DEEDS:
            return self._do_deed(line)
        if word in LONE_WORDS and not blank:
            return self._tell_whole(word)
        if word in ASKING_WORDS and blank:
            return self._tell_asked(word, rest)
        if word in LEADING_WORDS and blank:
            return self._lead(line, word, rest)
        raise NoLine()

    def lines(self):
        """The list of all lines that changed its State, in order."""
        return list(self._lines)

    def state(self):
        return self._state

    def _become(self, state, line):
        if state != self._state:
            self._state = state
            self._lines.append(line)

    def _do_deed(self, line):
        deed = read_deed(self._state.schema, line)
        edit = next_edit(self._state, LIFE, deed)
        self._become(with_edit(self._state, edit), line)
        return f"ok {edit[1]}"

    def _lead(self, line, word, text):
        """Joins a State, or does an edit of any life."""
        schema = self._state.schema
        if word == "join":
            self._become(joined(self._state, read_state(schema, text)), line)
            return "ok"
        self._become(with_edit(self._state, read_edit(schema, text)), line)
        return f"ok {sum([number for _, number in self._state.mark])}"

    def _tell_whole(self, word):
        """What is told of the whole State."""
        if word == "mark":
            return mark_text(self._state.mark)
        if word == "root":
            return str(root_number(self._p, self._state))
        return state_text(self._state) if word == "text" else str(tree_of(self._p, self._state).many)

    def _tell_asked(self, word, text):
        """What is told of a pattern or a fact."""
        if word in ("why", "lacks"):
            return self._tell_fact(word, fact_of(text))
        if word == "judge":
            question, behind = pattern_and_rest(text)
            return self._judged(question, behind)
        question = pattern_of(text)
        if word == "ask":
            return self._asked(question)
        told = answer_of(self._p, self._state, PLAIN, question)
        return packed(told) if word == "paper" else parted([str(number) for number in cost(told)])

    def _asked(self, question):
        state = self._state
        book = titles(state)
        why = bar_of(state.schema, book, question[0])
        if why is not None:
            return f"barred {packed(why)}"
        return rows_text(question[0], answer(state.schema, book, PLAIN, tables(state), question))

    def _judged(self, question, text):
        thing = unpacked(text)
        root = root_number(self._p, self._state)
        return "taken" if judge(self._state.schema, self._p, root, question, thing) else "not taken"

    def _tell_fact(self, word, fact):
        state = self._state
        asked = (state.schema, titles(state), tables(state), *fact)
        if word == "lacks":
            return lacks_text(lacks(*asked))
        told = proof(*asked)
        return NONE if told is None else packed(told)


def read_deed(schema, text):
    """The deed of just this text."""
    reader = Reader(text)
    try:
        deed = deed_in(schema, reader)
    except NotRead:
        raise NoText() from None
    if not is_deed(schema, deed) or deed_text(deed) != text:
        raise NoText()
    return deed
