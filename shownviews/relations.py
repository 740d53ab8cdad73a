"""Rows by their names, kept so that those that fit a pattern are found at once."""


class Relations:
    """A growing lot of rows; each is put in once, and none is taken out."""

    def __init__(self):
        self._rows = {}
        # From a name to a dict from the places that were asked for to a dict from worths there to rows.
        self._found = {}

    def has(self, name, row):
        return row in self._rows.get(name, {})

    def put(self, name, row):
        if self.has(name, row):
            return
        self._rows.setdefault(name, {})[row] = True
        found = self._found.get(name, {})
        for many, places in list(found):
            if many == len(row):
                put_at(found[(many, places)], places, row)

    def rows_of(self, name):
        """The list of the rows of a name, in no told order."""
        return list(self._rows.get(name, {}))

    def fitting(self, name, pattern):
        """The list of the rows of a name that fit a tuple of worths and None."""
        places = tuple([at for at, worth in enumerate(pattern) if worth is not None])
        found = self._found.setdefault(name, {})
        kind = (len(pattern), places)
        if kind not in found:
            found[kind] = {}
            for row in self._rows.get(name, {}):
                if len(row) == len(pattern):
                    put_at(found[kind], places, row)
        return list(found[kind].get(at_places(pattern, places), []))


def put_at(found, places, row):
    found.setdefault(at_places(row, places), []).append(row)


def at_places(row, places):
    return tuple([row[at] for at in places])


def relations_of(tables):
    """The rows of tables."""
    told = Relations()
    for name in tables:
        for row in tables[name]:
            told.put(name, row)
    return told
