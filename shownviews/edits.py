"""Deeds, marks and edits."""

from shownviews.errors import NoMark
from shownviews.rules import is_rule_of
from shownviews.schemas import is_of_sorts, relation_of
from shownviews.worths import is_integer, is_name, is_number, is_rising, is_small_integer, is_tuple_of

LAST_LIFE = 999


def is_deed(schema, thing):
    """Whether a thing is one of the seven kinds of deeds of the schema."""
    if not is_tuple_of(thing, 2, 4):
        return False
    if thing[0] in ("rule", "unrule"):
        return is_rule_deed(schema, thing)
    relation = relation_of(schema, thing[1])
    return relation is not None and is_fact_deed(relation, thing)


def is_rule_deed(schema, thing):
    if not is_name(thing[1]):
        return False
    if thing[0] == "unrule":
        return len(thing) == 2
    return len(thing) == 3 and is_rule_of(schema, thing[2])


def is_fact_deed(relation, thing):
    """Whether a tuple is a deed of the relation whose name stands in it."""
    _, kind, sorts = relation
    if thing[0] not in words_of(kind):
        return False
    if thing[0] == "add":
        return len(thing) == 4 and is_of_sorts(sorts[:-1], thing[2]) and is_amount(thing[3])
    wanted = sorts[:kind] if thing[0] == "take" else sorts
    return len(thing) == 3 and is_of_sorts(wanted, thing[2])


def words_of(kind):
    """The words of the deeds of a kind of relation."""
    if kind == "bag":
        return ("bring", "drop")
    return ("add",) if kind == "sum" else ("put", "take")


def is_amount(thing):
    return is_small_integer(thing) and thing != 0


def is_life(thing):
    return is_integer(thing) and 1 <= thing <= LAST_LIFE


def is_from_one(thing):
    return is_number(thing) and thing > 0


def is_mark(thing):
    """Whether a thing is an ascending tuple of pairs (life, number), one for a life at most."""
    if not isinstance(thing, tuple) or not all([is_mark_pair(pair) for pair in thing]):
        return False
    return is_rising([pair[0] for pair in thing])


def is_mark_pair(thing):
    return is_tuple_of(thing, 2, 2) and is_life(thing[0]) and is_from_one(thing[1])


def is_edit(schema, thing):
    """Whether a thing is an edit, which saw all that its own life did ahead of it."""
    if not is_tuple_of(thing, 5, 5):
        return False
    life, number, height, seen, deed = thing
    if not (is_life(life) and is_from_one(number) and is_from_one(height) and is_mark(seen)):
        return False
    return number_in(seen, life) == number - 1 and is_deed(schema, deed)


def number_in(mark, life):
    """Up to which number a mark stands for the edits of a life, 0 for none."""
    for other, number in mark:
        if other == life:
            return number
    return 0


def check_marks(mark, other):
    if not is_mark(mark) or not is_mark(other):
        raise NoMark()


def holds(mark, other):
    """Whether the one mark stands for all edits for which the other does."""
    return lacking(mark, other) == ()


def both(mark, other):
    """The least mark that holds both."""
    check_marks(mark, other)
    numbers = dict(mark)
    for life, number in other:
        numbers[life] = max(number, numbers.get(life, 0))
    return tuple(sorted(numbers.items()))


def lacking(mark, other):
    """The triples (life, first, last) of the edits for which just the other stands, ascending."""
    check_marks(mark, other)
    numbers = dict(mark)
    return tuple([(life, numbers.get(life, 0) + 1, last) for life, last in other if last > numbers.get(life, 0)])
