"""Patterns, by which rows are asked."""

from shownviews.errors import NoPattern
from shownviews.worths import is_free_worth, is_name, is_tuple_of, worth_key

UNKNOWN = (-1, 0)


def is_pattern(thing):
    """Whether a thing is a pair of a name and 1 to 5 worths and None, integers among them of any size."""
    if not is_tuple_of(thing, 2, 2) or not is_name(thing[0]) or not is_tuple_of(thing[1], 1, 5):
        return False
    return all([worth is None or is_free_worth(worth) for worth in thing[1]])


def check_pattern(thing):
    if not is_pattern(thing):
        raise NoPattern()


def pattern_key(pattern):
    """Patterns are ordered by their names, then place by place, None ahead of worths."""
    return (pattern[0], tuple([UNKNOWN if worth is None else worth_key(worth) for worth in pattern[1]]))
