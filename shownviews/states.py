"""States: what edits come to, whatever their order."""

from shownviews.edits import both, is_deed, is_edit, is_life, lacking, number_in
from shownviews.errors import NoDeed, NoEdit, NoLife, NotYet, OtherSchema
from shownviews.schemas import check_schema, relation_of
from shownviews.worths import rows_in_order


class State:
    """What some edits come to, at first none. It never changes: with_edit and joined make new ones."""

    def __init__(self, schema):
        check_schema(schema)
        self.schema = schema
        self.mark = ()
        self.height = 0
        self._cells = {}
        self._sums = {}
        self._bags = {}
        self._rules = {}

    def cells(self):
        """From pairs (name, key) to triples (height, life, rest), rest None of a take."""
        return copied(self._cells)

    def sums(self):
        """From triples (name, key, life) to what the life added."""
        return copied(self._sums)

    def bags(self):
        """From pairs (name, row) to the ascending pairs (life, number) of its brings that no drop saw."""
        return copied(self._bags)

    def rules(self):
        """From titles to triples (height, life, rule or None)."""
        return copied(self._rules)

    def __eq__(self, other):
        if not isinstance(other, State):
            return False
        if self.schema != other.schema or self.mark != other.mark or self.height != other.height:
            return False
        if self._cells != other._cells or self._sums != other._sums:
            return False
        return self._bags == other._bags and self._rules == other._rules


def copied(table):
    return {key: table[key] for key in table}


def state_of(schema, mark, height, kept):
    """The State that keeps a tuple of cells, sums, bags and rules, dicts that nobody else changes."""
    state = State(schema)
    state.mark = mark
    state.height = height
    state._cells, state._sums, state._bags, state._rules = kept
    return state


def with_edit(state, edit):
    """The State with one edit more, itself where its mark stands for the edit already."""
    if not is_edit(state.schema, edit):
        raise NoEdit()
    life, number, height, seen = edit[:4]
    if number_in(state.mark, life) >= number:
        return state
    lacks = lacking(state.mark, seen)
    if lacks:
        raise NotYet(lacks)
    kept = (state.cells(), state.sums(), state.bags(), state.rules())
    do_deed(state.schema, kept, edit)
    return state_of(state.schema, both(state.mark, ((life, number),)), max(state.height, height), kept)


def do_deed(schema, kept, edit):
    """Does the deed of an edit at the dicts of cells, sums, bags and rules."""
    life, height, deed = edit[0], edit[2], edit[4]
    cells, sums, bags, rules = kept
    word = deed[0]
    if word == "put":
        many = relation_of(schema, deed[1])[1]
        put_later(cells, (deed[1], deed[2][:many]), (height, life, deed[2][many:]))
    elif word == "take":
        put_later(cells, (deed[1], deed[2]), (height, life, None))
    elif word == "add":
        key = (deed[1], deed[2], life)
        sums[key] = sums.get(key, 0) + deed[3]
    elif word in ("bring", "drop"):
        change_bag(bags, edit)
    else:
        put_later(rules, deed[1], (height, life, deed[2] if word == "rule" else None))


def put_later(table, key, entry):
    """Puts in an entry (height, life, what) where none with a greater (height, life) stands."""
    if key not in table or table[key][:2] < entry[:2]:
        table[key] = entry


def change_bag(bags, edit):
    """Adds a bring, or takes out those that a drop saw; none that it saw can come behind it."""
    life, number, seen, deed = edit[0], edit[1], edit[3], edit[4]
    key = (deed[1], deed[2])
    brings = bags.get(key, ())
    if deed[0] == "bring":
        set_brings(bags, key, [*brings, (life, number)])
    else:
        set_brings(bags, key, not_in_mark(brings, seen))


def set_brings(bags, key, brings):
    """No entry stands for a row that no bring holds."""
    if brings:
        bags[key] = tuple(sorted(brings))
    elif key in bags:
        del bags[key]


def not_in_mark(brings, mark):
    return [bring for bring in brings if number_in(mark, bring[0]) < bring[1]]


def next_edit(state, life, deed):
    """The next edit of a life, which saw all that the State is made of."""
    if not is_life(life):
        raise NoLife()
    if not is_deed(state.schema, deed):
        raise NoDeed()
    return (life, number_in(state.mark, life) + 1, state.height + 1, state.mark, deed)


def joined(one, other):
    """The State of the edits of both."""
    if not isinstance(one, State) or not isinstance(other, State) or one.schema != other.schema:
        raise OtherSchema()
    kept = (
        joined_entries(one.cells(), other.cells()),
        joined_sums(one, other),
        joined_bags(one, other),
        joined_entries(one.rules(), other.rules()),
    )
    return state_of(one.schema, both(one.mark, other.mark), max(one.height, other.height), kept)


def joined_entries(table, more):
    """The first dict, changed to the later entries of both."""
    for key in more:
        put_later(table, key, more[key])
    return table


def joined_sums(one, other):
    """Of each life the sums of the State that stands for more of its edits, among which are all of the other one."""
    told = one.sums()
    more = other.sums()
    for key in more:
        if number_in(other.mark, key[2]) > number_in(one.mark, key[2]):
            told[key] = more[key]
    return told


def joined_bags(one, other):
    """A bring stays if both have it, or the one has it and the other one never had it."""
    bags = one.bags()
    more = other.bags()
    told = {}
    for key in [*bags, *more]:
        brings = bags.get(key, ())
        others = more.get(key, ())
        stay = [bring for bring in brings if bring in others]
        stay.extend(not_in_mark(brings, other.mark))
        stay.extend(not_in_mark(others, one.mark))
        set_brings(told, key, stay)
    return told


def tables(state):
    """The dict from all names of the schema to the ascending tuples of their rows."""
    rows = {relation[0]: [] for relation in state.schema}
    cells = state.cells()
    for name, key in cells:
        rest = cells[(name, key)][2]
        if rest is not None:
            rows[name].append((*key, *rest))
    totals = totals_of(state)
    for name, key in totals:
        if totals[(name, key)] != 0:
            rows[name].append((*key, totals[(name, key)]))
    for name, row in state.bags():
        rows[name].append(row)
    return {name: rows_in_order(rows[name]) for name in rows}


def totals_of(state):
    """From pairs (name, key) to the sums over all lives."""
    sums = state.sums()
    totals = {}
    for name, key, life in sums:
        totals[(name, key)] = totals.get((name, key), 0) + sums[(name, key, life)]
    return totals


def titles(state):
    """The dict from the titles that are not taken back to their rules."""
    rules = state.rules()
    return {title: rules[title][2] for title in rules if rules[title][2] is not None}
