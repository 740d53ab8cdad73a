"""Going through a rule for a pattern, condition by condition, by an order of these."""

from shownviews.fillings import bound_by, led_on, worths_of
from shownviews.ruleparts import head_name, name_in, terms_in, variables_of
from shownviews.worths import is_free_worth, is_number, is_tuple_of, known_places


def first_filling(rule, terms):
    """What the terms of the head must be for a row that fits a pattern's terms, None if they can not be."""
    head = rule[0][1]
    if len(head) != len(terms):
        return None
    places = known_places(terms)
    return bound_by({}, [head[at] for at in places], [terms[at] for at in places])


def filling_of(known):
    """The ascending tuple of the pairs of a filling."""
    return tuple(sorted(known.items()))


def once(fillings):
    """The fillings, equal ones once."""
    told = {filling_of(known): known for known in fillings}
    return list(told.values())


def led_through(relations, known, condition):
    """The fillings to which some lead on through a condition, over the rows of all names, equal ones once."""
    return once([more for filling in known for more in led_on(relations, filling, condition)])


def stages(relations, rule, order, first):
    """The lists of the partial fillings ahead of each condition in the order, and of those that come through."""
    told = [[] if first is None else [first]]
    for at in order:
        told.append(led_through(relations, told[-1], rule[1][at]))
    return told


def patterns_at(rule, order, told):
    """The patterns, as the keys of a dict, to which the conditions come from the fillings ahead of them."""
    found = {}
    for at, fillings in zip(order, told):
        name = name_in(rule[1][at])
        if name is not None:
            for filling in fillings:
                found[(name, worths_of(filling, terms_in(rule[1][at])))] = True
    return found


def is_filling(rule, thing):
    """Whether a thing is an ascending tuple of pairs (n, worth) for all variables of a rule."""
    if not isinstance(thing, tuple) or not all([is_filled(pair) for pair in thing]):
        return False
    return [pair[0] for pair in thing] == variables_of(rule)


def is_filled(thing):
    return is_tuple_of(thing, 2, 2) and is_number(thing[0]) and is_free_worth(thing[1])


def head_row(rule, filling):
    """The row to which the head comes by a whole filling, a dict."""
    return worths_of(filling, rule[0][1])


def grounds_of(relations, names, rule, filling):
    """For each "is" of one of the names the eldest row (name, row) that fits, where all of them are elder than the
    row of the head, otherwise None."""
    age = relations.age(head_name(rule), head_row(rule, filling))
    told = []
    for condition in rule[1]:
        if condition[0] == "is" and condition[1] in names:
            eldest = relations.fitting(condition[1], worths_of(filling, condition[2]))[0]
            if relations.age(condition[1], eldest) >= age:
                return None
            told.append((condition[1], eldest))
    return told
