"""Texts of rules, and the rules of texts."""

from shownviews.errors import BadText
from shownviews.readers import NotRead, Reader, read_integer, read_name, read_number, read_word, worth_text
from shownviews.ruleparts import BLANK, COMPARISONS, COUNTS, is_variable_term
from shownviews.rules import is_rule_of

SIGNS = {"less": " < ", "same": " = ", "unlike": " != "}
MOST_DIGITS = 20


def rule_text(rule):
    """The text of a rule, on one line."""
    head, body = rule
    conditions = ", ".join([condition_text(condition) for condition in body])
    return f"{asked_text(head[0], head[1])} if {conditions}"


def condition_text(condition):
    word = condition[0]
    if word in COMPARISONS:
        return term_text(condition[1]) + SIGNS[word] + term_text(condition[2])
    if word in COUNTS:
        return count_text(condition)
    asked = asked_text(condition[1], condition[2])
    return asked if word == "is" else f"not {asked}"


def count_text(condition):
    text = f"?{condition[1]} = {condition[0]} {asked_text(condition[2], condition[3])}"
    return text if condition[0] == "many" else f"{text} {condition[4]}"


def asked_text(name, terms):
    inner = ", ".join([term_text(term) for term in terms])
    return f"{name}({inner})"


def term_text(term):
    if is_variable_term(term):
        return f"?{term[1]}"
    return "_" if term == BLANK else worth_text(term)


def read_rule(schema, text):
    """The rule of the schema whose text this is."""
    if not isinstance(text, str):
        raise BadText(0)
    try:
        rule = rule_in(Reader(text))
    except NotRead:
        raise BadText(1) from None
    # Reading lets needless zeros and the like by, so the rule must come to just this text again.
    if not is_rule_of(schema, rule) or rule_text(rule) != text:
        raise BadText(1)
    return rule


def rule_in(reader):
    head = asked_in(reader)
    reader.take(" if ")
    body = listed(reader, condition_in)
    if not reader.is_done():
        raise NotRead()
    return (head, body)


def listed(reader, read_one):
    """The tuple of the things that stand here with commas between."""
    told = [read_one(reader)]
    while reader.took(", "):
        told.append(read_one(reader))
    return tuple(told)


def condition_in(reader):
    if reader.took("not "):
        return ("not", *asked_in(reader))
    if reader.sees_letter():
        return ("is", *asked_in(reader))
    low = term_in(reader)
    sign = reader.take_any(list(SIGNS.values()))
    if sign == SIGNS["same"] and reader.sees_letter():
        return count_in(reader, low)
    words = [word for word in COMPARISONS if SIGNS[word] == sign]
    return (words[0], low, term_in(reader))


def count_in(reader, variable):
    """The count whose n stands in a variable that is read already."""
    word = read_name(reader)
    if not is_variable_term(variable) or word not in COUNTS:
        raise NotRead()
    reader.take(" ")
    name, terms = asked_in(reader)
    if word == "many":
        return (word, variable[1], name, terms)
    reader.take(" ")
    return (word, variable[1], name, terms, read_number(reader, MOST_DIGITS))


def asked_in(reader):
    """A name and the terms and blanks in the parentheses behind it."""
    name = read_name(reader)
    reader.take("(")
    terms = listed(reader, term_in)
    reader.take(")")
    return (name, terms)


def term_in(reader):
    if reader.took("_"):
        return BLANK
    if reader.took("?"):
        return ("?", read_number(reader, MOST_DIGITS))
    if reader.sees("'"):
        return read_word(reader)
    return read_integer(reader, MOST_DIGITS)
