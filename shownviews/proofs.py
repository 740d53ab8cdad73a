"""Proofs of rows of derived names, and what is lacking where there is none."""

from shownviews.books import titles_by_head
from shownviews.closing import is_rule_for
from shownviews.errors import NoRow
from shownviews.fillings import led_on, worths_of
from shownviews.going import filling_of, first_filling, grounds_of, head_row, is_filling, stages
from shownviews.meanings import check_named, names_below, relations_for
from shownviews.plans import plain_order_of
from shownviews.worths import is_free_row, is_tuple_of


def check_asked(schema, book, tables, name, row):
    check_named(schema, book, tables, name)
    if not is_free_row(row):
        raise NoRow()


def proof(schema, book, tables, name, row):
    """A tuple of steps (name, row, rule's name, filling), the last one the row's own, None without one."""
    check_asked(schema, book, tables, name, row)
    relations = relations_for(book, tables, name)
    titles = titles_by_head(book)
    if name not in titles or not relations.has(name, row):
        return None
    steps = {}
    waiting = [(name, row)]
    while waiting:
        fact = waiting.pop()
        if fact not in steps:
            title, filling, grounds = first_instance(book, relations, titles, fact)
            steps[fact] = (*fact, title, filling)
            waiting.extend(grounds)
    # Each row stands on elder ones alone.
    ages = sorted([(relations.age(other, found), (other, found)) for other, found in steps])
    return tuple([steps[fact] for _, fact in ages])


def first_instance(book, relations, titles, fact):
    """The triple (rule's name, filling, facts on which it stands) of the first instance that stands on elder rows."""
    name, row = fact
    for title in titles[name]:
        rule = book[title]
        for filling in stages_for(relations, rule, full_order(rule), row)[-1]:
            grounds = grounds_of(relations, titles, rule, filling)
            if grounds is not None:
                return (title, filling_of(filling), grounds)
    return None


def full_order(rule):
    """The plain order of a rule where all places of its head are known."""
    return plain_order_of(rule, tuple(range(len(rule[0][1]))))


def stages_for(relations, rule, order, row):
    """The fillings ahead of each condition and behind them, going through a rule for a row."""
    return stages(relations, rule, order, first_filling(rule, row))


def is_proof(schema, book, tables, name, row, thing):
    """Whether a thing is a proof of a row of a derived name."""
    check_asked(schema, book, tables, name, row)
    relations = relations_for(book, tables, name)
    names = names_below(book, name)
    if not isinstance(thing, tuple) or not all([is_step(book, names, step) for step in thing]):
        return False
    places = {step[:2]: at for at, step in enumerate(thing)}
    if len(places) < len(thing) or places.get((name, row)) != len(thing) - 1:
        return False
    return all([is_proven(book[step[2]], names, relations, places, step) for step in thing])


def is_step(book, names, thing):
    """Whether a thing is a tuple (name, row, rule's name, filling) as one may stand in a proof over a list of names."""
    if not is_tuple_of(thing, 4, 4):
        return False
    name, row, title, filling = thing
    if name not in names or not is_free_row(row):
        return False
    return is_rule_for(book, name, title) and is_filling(book[title], filling)


def is_proven(rule, names, relations, places, step):
    """Whether a step's filling holds and leads to its row, and stands on rows of steps ahead."""
    filling = dict(step[3])
    if head_row(rule, filling) != step[1] or not all([led_on(relations, filling, part) for part in rule[1]]):
        return False
    for part in rule[1]:
        if part[0] == "is" and part[1] in names:
            rows = relations.fitting(part[1], worths_of(filling, part[2]))
            # A row without a step stands behind all steps.
            if not any([places.get((part[1], row), len(places)) < places[step[:2]] for row in rows]):
                return False
    return True


def lacks(schema, book, tables, name, row):
    """For each rule for a name the pair of its name and of the condition at which it does not come to a row, -1 if
    its head can not; None for a row that is there."""
    check_asked(schema, book, tables, name, row)
    relations = relations_for(book, tables, name)
    if relations.has(name, row):
        return None
    titles = titles_by_head(book).get(name, [])
    return tuple([(title, stop_at(relations, book[title], row)) for title in titles])


def stop_at(relations, rule, row):
    """The number of the first condition behind which no filling is left, -1 without a first filling."""
    order = full_order(rule)
    told = stages_for(relations, rule, order, row)
    if not told[0]:
        return -1
    return [at for at, fillings in zip(order, told[1:]) if not fillings][0]
