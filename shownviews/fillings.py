"""Partial fillings of rules, dicts from the numbers of variables to worths, led on through conditions."""

from shownviews.ruleparts import BLANK, COMPARISONS, is_variable_term, name_in, terms_in
from shownviews.worths import worth_key


def worth_of(filling, term):
    """The worth of a term, None for a blank and for a variable that is not known."""
    if is_variable_term(term):
        return filling.get(term[1])
    return None if isinstance(term, tuple) else term


def worths_of(filling, terms):
    """The pattern of the worths of terms that are known."""
    return tuple([worth_of(filling, term) for term in terms])


def bound_by(filling, terms, row):
    """The filling with what a row tells of the terms, None if they can not come to the row."""
    bound = {n: filling[n] for n in filling}
    for term, worth in zip(terms, row):
        if is_variable_term(term):
            if bound.setdefault(term[1], worth) != worth:
                return None
        elif term not in (BLANK, worth):
            return None
    return bound


def bound_by_each(filling, terms, rows):
    """The list of the fillings to which some of the rows lead; blanks may make equal ones among them."""
    bound = [bound_by(filling, terms, row) for row in rows]
    return [more for more in bound if more is not None]


def compares(word, low, high):
    """Whether two worths stand as the word of a comparison says."""
    if word == "less":
        return worth_key(low) < worth_key(high)
    return (low == high) == (word == "same")


def counted(condition, rows):
    """What a count comes to over the rows that fit it, None if one must be there and none is."""
    word = condition[0]
    if word == "many":
        return len(rows)
    worths = [row[condition[4]] for row in rows]
    if word == "sum":
        return sum([worth for worth in worths if not isinstance(worth, str)])
    if not worths:
        return None
    return min(worths, key=worth_key) if word == "least" else max(worths, key=worth_key)


def led_on(relations, filling, condition):
    """The list of the fillings to which one leads on through a condition, over the rows of all names."""
    worths = worths_of(filling, terms_in(condition))
    word = condition[0]
    if word in COMPARISONS:
        return [filling] if compares(word, worths[0], worths[1]) else []
    rows = relations.fitting(name_in(condition), worths)
    if word == "is":
        return bound_by_each(filling, condition[2], rows)
    if word == "not":
        return [] if rows else [filling]
    worth = counted(condition, rows)
    if worth is None or filling.get(condition[1], worth) != worth:
        return []
    return [{**filling, condition[1]: worth}]
