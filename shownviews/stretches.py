"""Stretches: the facts of a name whose rows lie between two bounds."""

from shownviews.errors import NoStretch
from shownviews.worths import is_free_worth, is_name, is_tuple_of, row_key


def stretch_of(pattern):
    """The stretch of all rows that begin as the worths of a pattern ahead of its first None."""
    name, terms = pattern
    low = terms[:terms.index(None)] if None in terms else terms
    return (name, low, low)


def stretch_key(stretch):
    """Stretches are ordered by their names, then by their bounds, None ahead of tuples."""
    return (stretch[0], bound_key(stretch[1]), bound_key(stretch[2]))


def bound_key(bound):
    return (0, ()) if bound is None else (1, row_key(bound))


def is_stretch(thing):
    if not is_tuple_of(thing, 3, 3) or not is_name(thing[0]):
        return False
    return is_bound(thing[1]) and is_bound(thing[2])


def is_bound(thing):
    return thing is None or (is_tuple_of(thing, 0, 5) and all([is_free_worth(worth) for worth in thing]))


def check_stretches(thing):
    if not isinstance(thing, tuple) or not all([is_stretch(part) for part in thing]):
        raise NoStretch()


def is_row_below(stretch, row):
    """Whether a row, cut to as many places as the low bound has, is less than it."""
    low = stretch[1]
    return low is not None and row_key(row[:len(low)]) < row_key(low)


def is_row_above(stretch, row):
    high = stretch[2]
    return high is not None and row_key(row[:len(high)]) > row_key(high)


def is_in(stretch, fact):
    """Whether a fact is in a stretch."""
    name, row = fact
    return name == stretch[0] and not is_row_below(stretch, row) and not is_row_above(stretch, row)


def is_below(stretch, fact):
    name, row = fact
    return name < stretch[0] or (name == stretch[0] and is_row_below(stretch, row))


def is_above(stretch, fact):
    return not is_in(stretch, fact) and not is_below(stretch, fact)


def is_shut(stretches, ahead, behind):
    """Whether a place between two own facts, each of them None for none, is closed to all of the stretches."""
    return all([is_shut_to(stretch, ahead, behind) for stretch in stretches])


def is_shut_to(stretch, ahead, behind):
    if behind is not None and is_below(stretch, behind):
        return True
    return ahead is not None and is_above(stretch, ahead)
