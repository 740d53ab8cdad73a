"""The meaning of a book over tables, layer by layer."""

from shownviews.books import bar, check_book, derived_among, telling_names
from shownviews.errors import Barred, NoTables
from shownviews.hanging import hung_on, layers_of, links_of
from shownviews.relations import relations_of
from shownviews.ruleparts import head_name
from shownviews.schemas import are_tables
from shownviews.ways import fill
from shownviews.worths import rows_in_order


def meaning(schema, book, tables):
    """The dict from all derived names without a bar to the ascending tuples of their rows."""
    check_book(schema, book)
    check_tables(schema, tables)
    relations = relations_of(tables)
    names = telling_names(schema, book)
    fill_layers(relations, book, names)
    return {name: rows_in_order(relations.rows_of(name)) for name in names}


def rounds(schema, book, tables, name):
    """In how many rounds the rows of the names of its own layer come on which a name hangs."""
    check_named(schema, book, tables, name)
    # No other name of these lies in a greater layer, so the last layer is its own one.
    return fill_layers(relations_of(tables), book, names_below(book, name))


def check_named(schema, book, tables, name):
    why = bar(schema, book, name)
    check_tables(schema, tables)
    if why is not None:
        raise Barred(why)


def check_tables(schema, tables):
    if not are_tables(schema, tables):
        raise NoTables()


def names_below(book, name):
    """The derived names on which a name hangs, itself among them, ascending."""
    links = links_of(book)
    return derived_among(links, hung_on(links, name))


def relations_for(book, tables, name):
    """The rows of the tables, and those meant of the derived names on which a name without a bar hangs."""
    relations = relations_of(tables)
    fill_layers(relations, book, names_below(book, name))
    return relations


def fill_layers(relations, book, names):
    """Puts in all rows of some derived names without a bar, where those of all others on which they hang are there;
    tells in how many rounds those of the last layer come, 0 without names."""
    many = 0
    for group, rules in groups_of(book, names):
        many = fill(relations, rules, group)
    return many


def groups_of(book, names):
    """The pairs (names, as the keys of a dict, rules for them) of each layer of some names, the lowest first."""
    layers = layers_of(links_of(book), names)
    told = []
    for number in sorted(set(list(layers.values()))):
        group = {name: True for name in names if layers[name] == number}
        told.append((group, [book[title] for title in sorted(book) if head_name(book[title]) in group]))
    return told
