"""Schemas, their relations, and rows and tables of them."""

from shownviews.errors import NoName, NoSchema
from shownviews.worths import is_integer, is_name, is_number, is_rising, is_small_integer, is_tuple_of, is_word, row_key


def is_schema(thing):
    """Whether a thing is a tuple of 1 to 8 relations, their names ascending, none of them "rule"."""
    if not is_tuple_of(thing, 1, 8) or not all([is_relation(part) for part in thing]):
        return False
    names = [part[0] for part in thing]
    return "rule" not in names and is_rising(names)


def is_relation(thing):
    if not is_tuple_of(thing, 3, 3):
        return False
    name, kind, sorts = thing
    return is_name(name) and are_sorts(sorts) and is_kind(kind, sorts)


def are_sorts(thing):
    return is_tuple_of(thing, 1, 5) and all([sort in ("number", "word") for sort in thing])


def is_kind(thing, sorts):
    """Whether a thing is a kind for a relation of these sorts."""
    if is_number(thing):
        return thing < len(sorts)
    return thing == "bag" or (thing == "sum" and sorts[-1] == "number")


def relation_of(schema, name):
    """The relation of a name, None for what is no name of one."""
    for relation in schema:
        if relation[0] == name:
            return relation
    return None


def is_of_sorts(sorts, thing):
    """Whether a thing is a tuple of worths of just these sorts."""
    if not is_tuple_of(thing, len(sorts), len(sorts)):
        return False
    return all([is_of_sort(sort, worth) for sort, worth in zip(sorts, thing)])


def is_of_sort(sort, thing):
    return is_word(thing) if sort == "word" else is_small_integer(thing)


def is_row(schema, name, thing):
    """Whether a thing is a row of the relation of this name."""
    relation = relation_of(schema, name)
    if relation is None:
        raise NoName()
    return is_of_sorts(relation[2], thing)


def check_schema(thing):
    if not is_schema(thing):
        raise NoSchema()


def are_tables(schema, thing):
    """Whether a thing is a dict from just the names of the schema to ascending tuples of their rows."""
    if not isinstance(thing, dict) or len(thing) != len(schema):
        return False
    if not all([relation[0] in thing for relation in schema]):
        return False
    return all([is_table(relation, thing[relation[0]]) for relation in schema])


def is_table(relation, thing):
    if not isinstance(thing, tuple) or not all([is_table_row(relation, row) for row in thing]):
        return False
    return is_rising([row_key(row) for row in thing])


def is_table_row(relation, thing):
    """In tables the last place of a sum may be an integer of any size."""
    _, kind, sorts = relation
    if kind != "sum":
        return is_of_sorts(sorts, thing)
    if not is_tuple_of(thing, len(sorts), len(sorts)):
        return False
    return is_of_sorts(sorts[:-1], thing[:-1]) and is_integer(thing[-1])
