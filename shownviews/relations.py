"""Rows by their names, kept so that those that fit a pattern are found at once."""

from shownviews.worths import known_places


class Relations:
    """A lot of rows that come and go, with how often it was looked at: each pattern sought counts 1, each row that
    fits it 1 more, and each row that is put in or taken out 1."""

    def __init__(self):
        self.sought = 0
        self._ages = 0
        # From a name to a dict from its rows to their ages.
        self._rows = {}
        # From a name to a dict from kinds of patterns, how many places and which are known, to a dict from the worths
        # there to the rows, the keys of a dict.
        self._found = {}

    def has(self, name, row):
        there = row in self._rows.get(name, {})
        self.sought += 2 if there else 1
        return there

    def age(self, name, row):
        """A number that is less than those of all rows that were put in later."""
        return self._rows[name][row]

    def put(self, name, row):
        rows = self._rows.setdefault(name, {})
        if row in rows:
            return
        self.sought += 1
        self._ages += 1
        rows[row] = self._ages
        for places, found in self._kinds_of(name, row):
            put_at(found, places, row)

    def take(self, name, row):
        """Takes out a row that is there."""
        self.sought += 1
        del self._rows[name][row]
        for places, found in self._kinds_of(name, row):
            key = at_places(row, places)
            del found[key][row]
            if not found[key]:
                del found[key]

    def _kinds_of(self, name, row):
        """The pairs (places, found rows) of the kinds of patterns by which rows of so many places are found."""
        kinds = self._found.get(name, {})
        return [(places, kinds[(many, places)]) for many, places in kinds if many == len(row)]

    def rows_of(self, name):
        """The list of the rows of a name, the eldest first."""
        return list(self._rows.get(name, {}))

    def prepare(self, name, many, places):
        """Sees to it that rows of so many places are found at once by patterns of which just these places are known."""
        kinds = self._found.setdefault(name, {})
        if (many, places) in kinds:
            return
        kinds[(many, places)] = {}
        for row in self._rows.get(name, {}):
            if len(row) == many:
                put_at(kinds[(many, places)], places, row)

    def fitting(self, name, terms):
        """The list of the rows of a name that fit a tuple of worths and None, the eldest first."""
        places = known_places(terms)
        self.prepare(name, len(terms), places)
        rows = list(self._found[name][(len(terms), places)].get(at_places(terms, places), {}))
        self.sought += 1 + len(rows)
        return rows


def put_at(found, places, row):
    found.setdefault(at_places(row, places), {})[row] = True


def at_places(row, places):
    return tuple([row[at] for at in places])


def relations_of(tables):
    """The rows of tables; their ages hang on what the tables are, not on how they came about."""
    told = Relations()
    for name in sorted(tables):
        for row in tables[name]:
            told.put(name, row)
    return told
