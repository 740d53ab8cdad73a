"""Views: the meaning of a book over tables, kept while facts and rules come and go."""

from shownviews.books import bar_of, check_book, is_book, telling_names
from shownviews.changes import Change, check_change, layers_for
from shownviews.errors import Barred, NoName, NoRule, NoView
from shownviews.hanging import links_of, reached, users_of
from shownviews.meanings import check_tables, fill_layers
from shownviews.relations import relations_of
from shownviews.ruleparts import head_name
from shownviews.rules import is_rule_of
from shownviews.schemas import are_tables, relation_of
from shownviews.worths import fact_key, is_free_row, is_name, is_rising, is_tuple_of, rows_in_order


class View:
    """Keeps tables, a book and its meaning over them."""

    def __init__(self, schema, book, tables):
        check_book(schema, book)
        check_tables(schema, tables)
        self._schema = schema
        self._book = {title: book[title] for title in book}
        self._relations = relations_of(tables)
        names = telling_names(schema, self._book)
        fill_layers(self._relations, self._book, names)
        self._layers = layers_for(self._book, names, self._relations)
        # Counted is from here on.
        self._relations.sought = 0

    def rows(self, name):
        """The ascending tuple of the rows of a name, () for names that are neither of the schema nor derived."""
        if not is_name(name):
            raise NoName()
        why = bar_of(self._schema, self._book, name)
        if why is not None:
            raise Barred(why)
        return rows_in_order(self._relations.rows_of(name))

    def tables(self):
        return {relation[0]: rows_in_order(self._relations.rows_of(relation[0])) for relation in self._schema}

    def book(self):
        return {title: self._book[title] for title in self._book}

    def looks(self):
        """How often its rows were looked at since it was made."""
        return self._relations.sought

    def change(self, gone, come):
        """Takes out the facts gone and puts in those come; tells which derived facts went and came."""
        check_change(self._schema, self._relations, gone, come)
        change = Change(self._relations, gone, come)
        for layer in self._layers:
            change.lead(layer)
        change.end()
        return (self._derived(change.gone), self._derived(change.come))

    def _derived(self, facts):
        """The ascending tuple of those of the facts that are of derived names."""
        told = [fact for fact in facts if relation_of(self._schema, fact[0]) is None]
        return tuple(sorted(told, key=fact_key))

    def rule(self, name, rule):
        """Puts a rule, or none, in the place of the one of this name; tells which derived facts went and came."""
        if not is_name(name):
            raise NoName()
        if rule is not None and not is_rule_of(self._schema, rule):
            raise NoRule()
        book = {title: self._book[title] for title in self._book if title != name}
        if rule is not None:
            book[name] = rule
        heads = [head_name(one[name]) for one in (self._book, book) if name in one]
        touched = {other: True for one in (self._book, book) for other in names_above(one, heads)}
        ahead = self._facts_of(touched)
        for other, row in ahead:
            self._relations.take(other, row)
        self._begin(book, touched)
        behind = self._facts_of(touched)
        gone = [fact for fact in ahead if fact not in behind]
        return (self._derived(gone), self._derived([fact for fact in behind if fact not in ahead]))

    def _facts_of(self, names):
        """The facts of some derived names, as the keys of a dict."""
        return {(name, row): True for name in names for row in self._relations.rows_of(name)}

    def _begin(self, book, touched):
        """Goes on with another book, the rows of some names, which are all gone, being made anew."""
        names = telling_names(self._schema, book)
        self._book = book
        fill_layers(self._relations, book, [name for name in names if name in touched])
        self._layers = layers_for(book, names, self._relations)


def names_above(book, names):
    """The names, and all that hang on them, as the keys of a dict."""
    return reached(users_of(links_of(book)), names)


def view_state(view):
    """The triple of the rules of a View, of its tables and of the rows of its derived names without a bar."""
    book = view.book()
    tables = view.tables()
    names = telling_names(view._schema, book)
    rules = tuple([(title, book[title]) for title in sorted(book)])
    rows = tuple([(name, tables[name]) for name in sorted(tables)])
    return (rules, rows, tuple([(name, view.rows(name)) for name in names]))


def view_of(schema, thing):
    """A View that goes on from what view_state told."""
    if not is_tuple_of(thing, 3, 3) or not all([are_named(part) for part in thing]):
        raise NoView()
    book = dict(thing[0])
    tables = dict(thing[1])
    if not is_book(schema, book) or not are_tables(schema, tables) or not are_free_rows(thing[2]):
        raise NoView()
    view = View(schema, book, tables)
    if view_state(view) != thing:
        raise NoView()
    return view


def are_named(thing):
    """Whether a thing is a tuple of pairs of names, ascending, and of other things."""
    if not isinstance(thing, tuple) or not all([is_tuple_of(part, 2, 2) and is_name(part[0]) for part in thing]):
        return False
    return is_rising([part[0] for part in thing])


def are_free_rows(pairs):
    """Whether each second of some pairs is a tuple of rows: Python takes flags for equal to numbers, this does not."""
    return all([isinstance(rows, tuple) and all([is_free_row(row) for row in rows]) for _, rows in pairs])
