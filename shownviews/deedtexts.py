"""Texts of marks, rows and deeds, and reading them.

What is read may yet have needless zeros, or numbers and words that are too great; whoever reads looks at that.
"""

from shownviews.edits import words_of
from shownviews.errors import BadText
from shownviews.readers import NotRead, need, read_integer, read_name, read_number, read_word, worth_text
from shownviews.ruletexts import read_rule, rule_text
from shownviews.schemas import relation_of

MOST_DIGITS = 4000
NONE = "-"


def mark_text(mark):
    """The text of a mark, or of other pairs (life, number)."""
    return ",".join([f"{life}:{number}" for life, number in mark]) if mark else NONE


def mark_in(reader):
    """The tuple of the pairs that stand here."""
    if reader.took(NONE):
        return ()
    told = [pair_in(reader)]
    while reader.took(","):
        told.append(pair_in(reader))
    return tuple(told)


def pair_in(reader):
    life = read_number(reader, MOST_DIGITS)
    reader.take(":")
    return (life, read_number(reader, MOST_DIGITS))


def row_text(row):
    """The text of a row or key, which may have no place."""
    return ",".join([worth_text(worth) for worth in row]) if row else NONE


def row_in(reader, sorts):
    """The tuple of the worths of some sorts that stand here."""
    if not sorts:
        reader.take(NONE)
        return ()
    told = []
    for sort in sorts:
        if told:
            reader.take(",")
        told.append(read_word(reader) if sort == "word" else read_integer(reader, MOST_DIGITS))
    return tuple(told)


def quoted_rule(rule):
    """The text of a rule as the text of a worth is of it."""
    return worth_text(rule_text(rule))


def quoted_rule_in(schema, reader):
    text = read_word(reader)
    try:
        return read_rule(schema, text)
    except BadText:
        raise NotRead() from None


def deed_text(deed):
    """The text of a deed, its parts parted by blanks."""
    word, name = deed[:2]
    if word == "unrule":
        return f"{word} {name}"
    if word == "rule":
        return f"{word} {name} {quoted_rule(deed[2])}"
    told = f"{word} {name} {row_text(deed[2])}"
    return f"{told} {deed[3]}" if word == "add" else told


def deed_in(schema, reader):
    """The deed that stands here, which may yet have numbers or words that are too great."""
    word = read_name(reader)
    reader.take(" ")
    name = read_name(reader)
    if word == "unrule":
        return (word, name)
    reader.take(" ")
    if word == "rule":
        return (word, name, quoted_rule_in(schema, reader))
    relation = relation_of(schema, name)
    need(relation is not None and word in words_of(relation[1]))
    _, kind, sorts = relation
    if word == "add":
        key = row_in(reader, sorts[:-1])
        reader.take(" ")
        return (word, name, key, read_integer(reader, MOST_DIGITS))
    return (word, name, row_in(reader, sorts[:kind] if word == "take" else sorts))
