"""Things, which are packed to texts, and the things of texts."""

from shownviews.errors import BadText, NoThing
from shownviews.mixing import is_text
from shownviews.readers import Reader, worth_text
from shownviews.worths import is_integer

MOST_DIGITS = 4000
# So many bits integers of that many digits have at most; Python itself does not tell the digits of far greater ones.
MOST_BITS = 13288
DEEPEST = 30
NOTHING = "."


def packed(thing):
    """The text of a thing."""
    if not is_thing(thing, 0):
        raise NoThing()
    return packed_text(thing)


def is_thing(thing, depth):
    """Whether an object that stands within so many tuples is a thing."""
    if isinstance(thing, tuple):
        return depth < DEEPEST and all([is_thing(part, depth + 1) for part in thing])
    return thing is None or is_text(thing) or is_packed_integer(thing)


def is_packed_integer(thing):
    if not is_integer(thing) or thing.bit_length() > MOST_BITS:
        return False
    return len(str(abs(thing))) <= MOST_DIGITS


def packed_text(thing):
    """As packed, of what is a thing already."""
    if isinstance(thing, tuple):
        inner = ",".join([packed_text(part) for part in thing])
        return f"({inner})"
    return NOTHING if thing is None else worth_text(thing)


def unpacked(text):
    """The thing of just this text."""
    if not is_text(text):
        raise BadText(-1)
    reader = Reader(text)
    thing = thing_in(reader, 0)
    if not reader.is_done():
        raise BadText(reader.at)
    return thing


def thing_in(reader, depth):
    """The thing that stands here, within so many tuples; the reader stands at the first sign at which it can not go on
    where there is none."""
    if reader.took(NOTHING):
        return None
    if reader.took("'"):
        return string_in(reader)
    if depth < DEEPEST and reader.took("("):
        return tuple_in(reader, depth + 1)
    return integer_in(reader)


def string_in(reader):
    """The string whose first quote is gone by."""
    signs = []
    while not reader.took("'"):
        if reader.took("~") and not reader.sees("'") and not reader.sees("~"):
            raise BadText(reader.at)
        signs.append(sign_in(reader))
    return "".join(signs)


def sign_in(reader):
    if reader.is_done():
        raise BadText(reader.at)
    return reader.take_one()


def tuple_in(reader, depth):
    """The tuple whose first sign is gone by, within which the depth counts it."""
    if reader.took(")"):
        return ()
    told = [thing_in(reader, depth)]
    while reader.took(","):
        told.append(thing_in(reader, depth))
    if not reader.took(")"):
        raise BadText(reader.at)
    return tuple(told)


def integer_in(reader):
    negative = reader.took("-")
    if not negative and reader.took("0"):
        return 0
    if reader.sees("0") or not reader.sees_digit():
        raise BadText(reader.at)
    start = reader.at
    while reader.sees_digit() and reader.at - start < MOST_DIGITS:
        reader.take_one()
    told = int(reader.text[start:reader.at])
    return -told if negative else told
