"""Rules: what is one, and the order of rows."""

from shownviews.errors import NoRows
from shownviews.ruleparts import BLANK, COMPARISONS, COUNTS
from shownviews.schemas import check_schema, relation_of
from shownviews.worths import is_free_row, is_name, is_number, is_tuple_of, is_worth, rows_in_order

VARIABLES = 20


def is_rule(schema, thing):
    """Whether a thing is a rule of the schema, safe or not."""
    check_schema(schema)
    return is_rule_of(schema, thing)


def is_rule_of(schema, thing):
    """As is_rule, of what is a schema already."""
    if not is_tuple_of(thing, 2, 2):
        return False
    head, body = thing
    if not is_head(schema, head) or not is_tuple_of(body, 1, 8):
        return False
    return all([is_condition(schema, condition) for condition in body])


def is_head(schema, thing):
    if not is_tuple_of(thing, 2, 2):
        return False
    name, terms = thing
    if not is_asked_name(name) or relation_of(schema, name) is not None:
        return False
    return is_tuple_of(terms, 1, 5) and all([is_term(term) for term in terms])


def is_asked_name(thing):
    return is_name(thing) and thing != "rule"


def is_variable_number(thing):
    return is_number(thing) and thing < VARIABLES


def is_variable(thing):
    return is_tuple_of(thing, 2, 2) and thing[0] == "?" and is_variable_number(thing[1])


def is_blank(thing):
    return isinstance(thing, tuple) and thing == BLANK


def is_term(thing):
    return is_worth(thing) or is_variable(thing)


def is_condition(schema, thing):
    if not is_tuple_of(thing, 3, 5):
        return False
    word = thing[0]
    if word in COMPARISONS:
        return len(thing) == 3 and is_term(thing[1]) and is_term(thing[2])
    if word in ("is", "not"):
        return len(thing) == 3 and are_asked(schema, thing[1], thing[2])
    return word in COUNTS and is_count_condition(schema, thing)


def is_count_condition(schema, thing):
    if len(thing) != (4 if thing[0] == "many" else 5):
        return False
    if not is_variable_number(thing[1]) or not are_asked(schema, thing[2], thing[3]):
        return False
    return thing[0] == "many" or is_place_of_blank(thing[3], thing[4])


def is_place_of_blank(terms, thing):
    return is_number(thing) and thing < len(terms) and is_blank(terms[thing])


def are_asked(schema, name, thing):
    """Whether a thing are the terms and blanks by which a condition may ask a name."""
    if not is_asked_name(name) or not is_tuple_of(thing, 1, 5):
        return False
    relation = relation_of(schema, name)
    if relation is not None and len(thing) != len(relation[2]):
        return False
    return all([is_term(part) or is_blank(part) for part in thing])


def ordered(rows):
    """The rows in the order of their worths, numbers ahead of words, each once."""
    if not isinstance(rows, (list, tuple)) or not all([is_free_row(row) for row in rows]):
        raise NoRows()
    return rows_in_order(rows)
