"""Texts of edits and of States, one line each, and the edits and States of texts."""

from shownviews.deedtexts import (MOST_DIGITS, NONE, deed_in, deed_text, mark_in, mark_text, quoted_rule,
                                  quoted_rule_in, row_in, row_text)
from shownviews.edits import is_edit, is_mark, number_in
from shownviews.errors import NoText
from shownviews.readers import NotRead, Reader, need, read_integer, read_name, read_number
from shownviews.schemas import check_schema, is_of_sorts, relation_of
from shownviews.states import state_of
from shownviews.worths import is_name, is_number, is_rising

BETWEEN = " ; "


def edit_text(edit):
    """The text of an edit."""
    life, number, height, seen, deed = edit
    return f"{life} {number} {height} {mark_text(seen)} {deed_text(deed)}"


def read_edit(schema, text):
    """The edit of the schema whose text this is."""
    check_schema(schema)
    if not isinstance(text, str):
        raise NoText()
    try:
        edit = edit_in(schema, Reader(text))
    except NotRead:
        raise NoText() from None
    # Reading lets needless zeros and the like by, so the edit must come to just this text again.
    if not is_edit(schema, edit) or edit_text(edit) != text:
        raise NoText()
    return edit


def edit_in(schema, reader):
    told = []
    for _ in range(3):
        told.append(read_number(reader, MOST_DIGITS))
        reader.take(" ")
    seen = mark_in(reader)
    reader.take(" ")
    return (*told, seen, deed_in(schema, reader))


def state_text(state):
    """The text of a State: its mark and height, and a part for each thing that it keeps, by their keys."""
    told = [f"{mark_text(state.mark)} {state.height}"]
    cells = state.cells()
    told.extend([cell_text(key, cells[key]) for key in sorted(cells)])
    sums = state.sums()
    for name, key, life in sorted(sums):
        told.append(f"sum {name} {row_text(key)} {life} {sums[(name, key, life)]}")
    bags = state.bags()
    for name, row in sorted(bags):
        told.append(f"bag {name} {row_text(row)} {mark_text(bags[(name, row)])}")
    rules = state.rules()
    told.extend([title_text(title, rules[title]) for title in sorted(rules)])
    return BETWEEN.join(told)


def cell_text(key, entry):
    height, life, rest = entry
    kept = NONE if rest is None else f"={row_text(rest)}"
    return f"cell {key[0]} {row_text(key[1])} {height} {life} {kept}"


def title_text(title, entry):
    height, life, rule = entry
    kept = NONE if rule is None else quoted_rule(rule)
    return f"rule {title} {height} {life} {kept}"


def read_state(schema, text):
    """The State of the schema whose text this is."""
    check_schema(schema)
    if not isinstance(text, str):
        raise NoText()
    try:
        state = StateReader(schema, text).state()
    except NotRead:
        raise NoText() from None
    # This also finds parts that are not ascending, or stand twice.
    if state_text(state) != text:
        raise NoText()
    return state


class StateReader:
    """Reads a State's text, part by part."""

    def __init__(self, schema, text):
        self._schema = schema
        self._reader = Reader(text)
        self._mark = ()
        self._height = 0
        self._cells = {}
        self._sums = {}
        self._bags = {}
        self._rules = {}

    def state(self):
        self._mark = mark_in(self._reader)
        need(is_mark(self._mark))
        self._height = self._read_number()
        need((self._height == 0) == (self._mark == ()))
        while self._reader.took(BETWEEN):
            self._read_part()
        need(self._reader.is_done())
        kept = (self._cells, self._sums, self._bags, self._rules)
        return state_of(self._schema, self._mark, self._height, kept)

    def _read_part(self):
        word = read_name(self._reader)
        name = self._read_name()
        if word == "rule":
            need(is_name(name))
            self._rules[name] = (*self._read_tall_and_life(), self._read_rule())
            return
        relation = relation_of(self._schema, name)
        need(relation is not None)
        _, kind, sorts = relation
        if word == "cell":
            need(is_number(kind))
            key = self._read_row(sorts[:kind])
            self._cells[(name, key)] = (*self._read_tall_and_life(), self._read_rest(sorts[kind:]))
        else:
            need(word == kind)
            self._read_facts(name, kind, sorts)

    def _read_facts(self, name, kind, sorts):
        """What a sum or a bag keeps of a key or row."""
        if kind == "sum":
            key = self._read_row(sorts[:-1])
            life = self._read_life()
            self._reader.take(" ")
            self._sums[(name, key, life)] = read_integer(self._reader, MOST_DIGITS)
        else:
            row = self._read_row(sorts)
            self._bags[(name, row)] = self._read_brings()

    def _read_name(self):
        self._reader.take(" ")
        return read_name(self._reader)

    def _read_number(self):
        self._reader.take(" ")
        return read_number(self._reader, MOST_DIGITS)

    def _read_life(self):
        """A life for edits of which the mark stands."""
        life = self._read_number()
        need(number_in(self._mark, life) > 0)
        return life

    def _read_tall_and_life(self):
        """The pair of a height, which is not above the State's, and of a life."""
        height = self._read_number()
        need(1 <= height <= self._height)
        return (height, self._read_life())

    def _read_row(self, sorts):
        self._reader.take(" ")
        return self._read_row_here(sorts)

    def _read_row_here(self, sorts):
        row = row_in(self._reader, sorts)
        need(is_of_sorts(sorts, row))
        return row

    def _read_rest(self, sorts):
        self._reader.take(" ")
        if self._reader.took(NONE):
            return None
        self._reader.take("=")
        return self._read_row_here(sorts)

    def _read_rule(self):
        self._reader.take(" ")
        return None if self._reader.took(NONE) else quoted_rule_in(self._schema, self._reader)

    def _read_brings(self):
        """The pairs (life, number) of brings for which the mark stands, one at least."""
        self._reader.take(" ")
        told = mark_in(self._reader)
        need(told != () and is_rising(told))
        need(all([1 <= number <= number_in(self._mark, life) for life, number in told]))
        return told
