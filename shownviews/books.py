"""Books of rules: why a name tells nothing, and in which layer a name lies."""

from shownviews.errors import NoBook, NoName
from shownviews.hanging import hung_on, layers_of, least_ring, links_of, reached, ring_from, users_of
from shownviews.ruleparts import head_name, is_safe, name_in, terms_in
from shownviews.rules import is_rule_of
from shownviews.schemas import check_schema
from shownviews.worths import is_name


def is_book(schema, thing):
    """Whether a thing is a dict from names to rules of the schema."""
    if not isinstance(thing, dict) or not all([is_name(title) for title in thing]):
        return False
    return all([is_rule_of(schema, thing[title]) for title in thing])


def check_book(schema, book):
    check_schema(schema)
    if not is_book(schema, book):
        raise NoBook()


def titles_by_head(book):
    """From each derived name to the names of its rules, ascending."""
    told = {}
    for title in sorted(book):
        told.setdefault(head_name(book[title]), []).append(title)
    return told


def bar(schema, book, name):
    """Why a name tells nothing: the pair ("unsafe", rule), ("places", rule) or ("ring", names), None if it tells."""
    check_book(schema, book)
    if not is_name(name):
        raise NoName()
    return bar_of(schema, book, name)


def bar_of(schema, book, name):
    """As bar, of what is a schema, a book and a name already."""
    links = links_of(book)
    hung = hung_on(links, name)
    titles = [title for title in sorted(book) if head_name(book[title]) in hung]
    for title in titles:
        if not is_safe(book[title]):
            return ("unsafe", title)
    places = places_of(schema, book)
    for title in titles:
        if not is_of_places(book[title], places):
            return ("places", title)
    ring = least_ring(links, hung)
    return None if ring is None else ("ring", ring)


def places_of(schema, book):
    """How many places each name has, a derived one by the head of the least-named rule for it."""
    places = {name: len(sorts) for name, _, sorts in schema}
    for title in sorted(book):
        name, terms = book[title][0]
        places.setdefault(name, len(terms))
    return places


def is_of_places(rule, places):
    """Whether each name in the rule stands with its number of places, whatever that of a name without rows is."""
    head, body = rule
    asked = [(name_in(condition), terms_in(condition)) for condition in body if name_in(condition) is not None]
    return all([len(terms) == places.get(name, len(terms)) for name, terms in [head, *asked]])


def layer(schema, book, name):
    """The layer of a derived name without a bar, None of other names."""
    why = bar(schema, book, name)
    links = links_of(book)
    if why is not None or name not in links:
        return None
    return layers_of(links, derived_among(links, hung_on(links, name)))[name]


def derived_among(links, names):
    """Those of the names that have rules, ascending."""
    return [name for name in sorted(names) if name in links]


def telling_names(schema, book):
    """All derived names without a bar, ascending."""
    links = links_of(book)
    users = users_of(links)
    places = places_of(schema, book)
    barred = {name: True for name in links if ring_from(links, users, name) is not None}
    for title in book:
        if not (is_safe(book[title]) and is_of_places(book[title], places)):
            barred[head_name(book[title])] = True
    # What hangs on a name with a bar has one itself.
    mute = reached(users, barred)
    return [name for name in sorted(links) if name not in mute]
