"""Closed lots of patterns and rows, by which a question is answered, and what is sought for them."""

from shownviews.asking import Asker
from shownviews.books import bar_of, check_book
from shownviews.closing import closed_asker
from shownviews.errors import Barred, NoClosed, NoNumber, TooMany
from shownviews.going import filling_of, grounds_of
from shownviews.hanging import links_of
from shownviews.meanings import check_tables, relations_for
from shownviews.patterns import check_pattern, pattern_key
from shownviews.plans import check_plan, orders_in
from shownviews.relations import relations_of
from shownviews.stretches import stretch_key
from shownviews.worths import fact_key, is_integer, rows_in_order

MOST_PLANS = 2000


def check_planned(schema, book, plan, tables, question):
    check_book(schema, book)
    check_plan(book, plan)
    check_question(schema, book, tables, question)


def check_question(schema, book, tables, question):
    """Checks the tables and the question, over what is a book already."""
    check_tables(schema, tables)
    check_pattern(question)
    why = bar_of(schema, book, question[0])
    if why is not None:
        raise Barred(why)


def answer(schema, book, plan, tables, question):
    """The ascending tuple of the rows that fit the question."""
    check_planned(schema, book, plan, tables, question)
    relations = relations_for(book, tables, question[0])
    return rows_in_order(relations.fitting(question[0], question[1]))


def closed_lot(schema, book, plan, tables, question):
    """The pair of the patterns asked and of the claims of the closed lot with the fewest of them."""
    check_planned(schema, book, plan, tables, question)
    return whole_answer(schema, book, plan, tables, question)[1]


def whole_answer(schema, book, plan, tables, question):
    """The triple of the rows that fit a question, of the least closed lot for it and of this one's trace, of what is
    checked already."""
    relations = relations_for(book, tables, question[0])
    asker = Asker(book, relations)
    orders = orders_in(plan)
    asked = sorted(asker.least_asked(orders, question), key=pattern_key)
    lot = (tuple(asked), claims(book, relations, asker, orders, asked))
    rows = rows_in_order(relations.fitting(question[0], question[1]))
    return (rows, lot, trace_of(schema, asker, orders, asked, question))


def trace_of(schema, asker, orders, asked, question):
    return tuple(sorted(asker.stretches(schema, orders, asked, question), key=stretch_key))


def claims(book, relations, asker, orders, asked):
    """Of all rows that are come to, by the meaning, one claim each, ascending.

    The height of a row is its age: it came by rows that were there ahead of it.
    """
    told = {}
    names = links_of(book)
    for pattern in asked:
        name = pattern[0]
        for title, _, fillings in asker.all_through(orders, pattern):
            for filling in fillings:
                row = asker.row_of(title, filling)
                if (name, row) not in told and grounds_of(relations, names, book[title], filling) is not None:
                    told[(name, row)] = (name, row, relations.age(name, row), title, filling_of(filling))
    return tuple([told[fact] for fact in sorted(told, key=fact_key)])


def is_closed(schema, book, plan, tables, question, thing):
    """Whether a thing is a closed lot for the question, with the fewest patterns and claims or not."""
    check_planned(schema, book, plan, tables, question)
    return closed_asker(book, orders_in(plan), relations_of(tables), question, thing) is not None


def trace(schema, book, plan, tables, question, lot):
    """The ascending tuple of all stretches that are come to by a closed lot."""
    check_planned(schema, book, plan, tables, question)
    orders = orders_in(plan)
    asker = closed_asker(book, orders, relations_of(tables), question, lot)
    if asker is None:
        raise NoClosed()
    return trace_of(schema, asker, orders, lot[0], question)


def seeks(schema, book, plan, tables, question):
    """How many patterns and stretches are sought for the question."""
    check_planned(schema, book, plan, tables, question)
    asker = Asker(book, relations_for(book, tables, question[0]))
    orders = orders_in(plan)
    return sought(schema, asker, orders, question, asker.least_asked(orders, question))


def sought(schema, asker, orders, question, asked):
    return len(asked) + len(asker.stretches(schema, orders, asked, question))


def better(schema, book, tables, question, most):
    """A plan by which the fewest patterns and stretches are sought, of at most so many that lead to unlike orders."""
    check_book(schema, book)
    check_question(schema, book, tables, question)
    if not is_integer(most) or not 1 <= most <= MOST_PLANS:
        raise NoNumber()
    asker = Asker(book, relations_for(book, tables, question[0]))
    best = None
    done = 0
    begun = [{}]
    while begun:
        orders = begun.pop()
        # An open order is gone by as the plain one; what is asked by it stands behind the pattern where it is open.
        asked = asker.least_asked(orders, question)
        choices = asker.choices(orders, asked, most)
        begun.extend([with_order(orders, title, lot, order) for title, lot, order in reversed(choices)])
        if not choices:
            done += 1
            many = sought(schema, asker, orders, question, asked)
            best = (many, orders) if best is None or many < best[0] else best
        # Each plan that is begun leads to one more at least.
        if done + len(begun) > most:
            raise TooMany(most)
    return plan_of(best[1])


def with_order(orders, title, lot, order):
    told = {key: orders[key] for key in orders}
    told[(title, lot)] = order
    return told


def plan_of(orders):
    return tuple(sorted([(title, lot, orders[(title, lot)]) for title, lot in orders]))
