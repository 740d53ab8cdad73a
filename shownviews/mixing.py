"""Mixing texts to numbers, and facts with their texts."""

from shownviews.errors import NoFact, NoPrime, NoText
from shownviews.readers import worth_text
from shownviews.worths import is_free_row, is_integer, is_name, is_tuple_of

LEAST_PRIME = 1000
GREATEST_PRIME = 2 ** 63 * 2 ** 64
# What the number of a sign lacks to Python's own, so that the blank has 1; a line feed has 0.
BEFORE_BLANK = 31


def is_prime(thing):
    """Whether a thing may stand as the prime number of a mixing; just its size is looked at."""
    return is_integer(thing) and LEAST_PRIME <= thing <= GREATEST_PRIME


def check_prime(thing):
    if not is_prime(thing):
        raise NoPrime()


def is_text(thing):
    """Whether a thing is a string of signs from the blank to ~ and line feeds."""
    return isinstance(thing, str) and all([" " <= sign <= "~" or sign == "\n" for sign in thing])


def mix(p, text):
    """The number to which a text is mixed modulo p."""
    check_prime(p)
    if not is_text(text):
        raise NoText()
    return mixed(p, text)


def mixed(p, text):
    """As mix, of what is a prime and a text already."""
    told = 1
    for sign in text:
        number = 0 if sign == "\n" else ord(sign) - BEFORE_BLANK
        told = (told * told + 3 * told * number + number + 5) % p
    return told


def is_fact(thing):
    """Whether a thing is a pair (name, row), or ("rule", (title, text))."""
    if not is_tuple_of(thing, 2, 2) or not is_name(thing[0]):
        return False
    name, row = thing
    if name == "rule":
        return is_tuple_of(row, 2, 2) and is_name(row[0]) and is_text(row[1])
    return is_free_row(row)


def check_fact(thing):
    if not is_fact(thing):
        raise NoFact()


def fact_text(fact):
    """The text of a fact, by which it is mixed."""
    check_fact(fact)
    return text_of(fact)


def text_of(fact):
    """As fact_text, of what is a fact already."""
    name, row = fact
    inner = ",".join([worth_text(worth) for worth in row])
    return f"{name}({inner})"


def numbers_text(numbers):
    """The text of a list of numbers."""
    return ",".join([str(number) for number in numbers])


def number_of(p, fact):
    """The number of a fact modulo p."""
    check_prime(p)
    check_fact(fact)
    return mixed(p, text_of(fact))
