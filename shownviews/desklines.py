"""The parts of a desk's lines: patterns and facts, and the texts of what is told."""

from shownviews.errors import NoLine
from shownviews.mixing import text_of
from shownviews.patterns import is_pattern
from shownviews.readers import NotRead, Reader, read_integer, read_name, read_word, worth_text

MOST_DIGITS = 4000
UNKNOWN = "_"
NONE = "none"


def pattern_text(pattern):
    """The text of a pattern, or of a fact, which is a pattern without None."""
    name, terms = pattern
    inner = ",".join([UNKNOWN if worth is None else worth_text(worth) for worth in terms])
    return f"{name}({inner})"


def pattern_ahead(text):
    """The pair of the pattern whose text stands at the beginning of a text, and of what stands behind it."""
    reader = Reader(text)
    try:
        pattern = pattern_in(reader)
    except NotRead:
        raise NoLine() from None
    # Needless zeros, long names and the like are read, too.
    if not is_pattern(pattern) or pattern_text(pattern) != text[:reader.at]:
        raise NoLine()
    return (pattern, text[reader.at:])


def pattern_in(reader):
    name = read_name(reader)
    reader.take("(")
    told = [term_in(reader)]
    while reader.took(","):
        told.append(term_in(reader))
    reader.take(")")
    return (name, tuple(told))


def term_in(reader):
    if reader.took(UNKNOWN):
        return None
    return read_word(reader) if reader.sees("'") else read_integer(reader, MOST_DIGITS)


def pattern_of(text):
    """The pattern of just this text."""
    pattern, behind = pattern_ahead(text)
    if behind:
        raise NoLine()
    return pattern


def fact_of(text):
    """The fact (name, row) of just this text."""
    fact = pattern_of(text)
    if None in fact[1]:
        raise NoLine()
    return fact


def pattern_and_rest(text):
    """The pair of a pattern and of what stands behind it and a blank."""
    pattern, behind = pattern_ahead(text)
    if not behind.startswith(" "):
        raise NoLine()
    return (pattern, behind[1:])


def parted(texts):
    """Texts with blanks between, or the word for none."""
    return " ".join(texts) if texts else NONE


def rows_text(name, rows):
    return parted([text_of((name, row)) for row in rows])


def lacks_text(told):
    """The text of what lacks tells."""
    if told is None:
        return "there"
    return parted([f"{title}:{place}" for title, place in told])
