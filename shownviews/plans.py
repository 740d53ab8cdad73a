"""Orders of the conditions of rules, and plans, which name an order for rules and lots of places of their heads."""

from shownviews.books import check_book
from shownviews.errors import NoLot, NoPlan, NoRule, Unsafe
from shownviews.ruleparts import are_known, is_count, is_safe, terms_in, variables_at, variables_in
from shownviews.rules import is_rule_of
from shownviews.worths import is_name, is_number, is_rising, is_tuple_of

# What is a rule of some schema is one of a schema that has none of its names, so of one without any.
BARE_SCHEMA = ()


def is_order(rule, lot, thing):
    """Whether a thing is an order of all conditions of a rule, if the places of a lot of its head are known."""
    check_rule_and_lot(rule, lot)
    return is_order_of(rule, lot, thing)


def check_rule_and_lot(rule, lot):
    if not is_rule_of(BARE_SCHEMA, rule):
        raise NoRule()
    if not is_lot_of(rule, lot):
        raise NoLot()


def is_lot_of(rule, thing):
    """Whether a thing is an ascending tuple of numbers of places of a rule's head."""
    if not isinstance(thing, tuple) or not all([is_number(at) for at in thing]):
        return False
    return is_rising(thing) and all([at < len(rule[0][1]) for at in thing])


def is_order_of(rule, lot, thing):
    body = rule[1]
    if not is_tuple_of(thing, len(body), len(body)) or not all([is_number(at) for at in thing]):
        return False
    if sorted(thing) != list(range(len(body))):
        return False
    known = known_at(rule, lot)
    for at in thing:
        if not is_ready(body[at], known):
            return False
        known = known_behind(body[at], known)
    return True


def known_at(rule, lot):
    """The variables at some places of a rule's head, as the keys of a dict."""
    return {n: True for n in variables_in([rule[0][1][at] for at in lot])}


def is_ready(condition, known):
    """Whether a condition may stand where these variables are known."""
    return condition[0] == "is" or are_known(variables_in(terms_in(condition)), known)


def known_behind(condition, known):
    """The variables that are known behind a condition that may stand where some are."""
    if condition[0] == "is" or is_count(condition):
        return {n: True for n in [*known, *variables_at(condition)]}
    return known


def plain_order(rule, lot):
    """The least order of a safe rule for a lot of places of its head."""
    check_rule_and_lot(rule, lot)
    if not is_safe(rule):
        raise Unsafe()
    return plain_order_of(rule, lot)


def plain_order_of(rule, lot):
    """As plain_order: what is known only grows, so the least condition that is ready never bars the way."""
    body = rule[1]
    known = known_at(rule, lot)
    told = []
    while len(told) < len(body):
        at = min([at for at in range(len(body)) if at not in told and is_ready(body[at], known)])
        told.append(at)
        known = known_behind(body[at], known)
    return tuple(told)


def orders_of(rule, lot, most):
    """The orders of a safe rule for a lot, ascending; of more than most of them just one more than these."""
    body = rule[1]
    begun = [((), known_at(rule, lot))]
    told = []
    while begun and len(told) <= most:
        order, known = begun.pop()
        if len(order) == len(body):
            told.append(order)
        for at in reversed(range(len(body))):
            if at not in order and is_ready(body[at], known):
                begun.append(((*order, at), known_behind(body[at], known)))
    return told


def is_plan(schema, book, thing):
    """Whether a thing is an ascending tuple of triples (rule's name, lot, order), one for a name and lot at most."""
    check_book(schema, book)
    return is_plan_of(book, thing)


def is_plan_of(book, thing):
    if not isinstance(thing, tuple) or not all([is_planned(book, part) for part in thing]):
        return False
    return is_rising([part[:2] for part in thing])


def is_planned(book, thing):
    if not is_tuple_of(thing, 3, 3) or not is_name(thing[0]) or thing[0] not in book:
        return False
    rule = book[thing[0]]
    return is_lot_of(rule, thing[1]) and is_order_of(rule, thing[1], thing[2])


def check_plan(book, thing):
    if not is_plan_of(book, thing):
        raise NoPlan()


def orders_in(plan):
    """From the pairs (rule's name, lot) of a plan to their orders."""
    return {(title, lot): order for title, lot, order in plan}
