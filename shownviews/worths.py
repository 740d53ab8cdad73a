"""Integers, words, worths and names: what all facts are made of, and their order."""

TOO_GREAT = 10 ** 20
LONGEST_WORD = 20
LONGEST_NAME = 8


def is_integer(thing):
    """A flag is an int for Python, but no integer here."""
    return isinstance(thing, int) and not isinstance(thing, bool)


def is_number(thing):
    return is_integer(thing) and thing >= 0


def is_small_integer(thing):
    """Whether a thing is an integer of at most twenty digits."""
    return is_integer(thing) and -TOO_GREAT < thing < TOO_GREAT


def is_word(thing):
    if not isinstance(thing, str) or len(thing) > LONGEST_WORD:
        return False
    return all([" " <= sign <= "~" for sign in thing])


def is_worth(thing):
    return is_small_integer(thing) or is_word(thing)


def is_free_worth(thing):
    """Whether a thing is a worth, but for how many digits an integer has."""
    return is_integer(thing) or is_word(thing)


def is_name(thing):
    if not isinstance(thing, str) or not 1 <= len(thing) <= LONGEST_NAME:
        return False
    return all(["a" <= sign <= "z" for sign in thing])


def is_tuple_of(thing, least, most):
    """Whether a thing is a tuple of at least so many and at most so many parts."""
    return isinstance(thing, tuple) and least <= len(thing) <= most


def is_free_row(thing):
    """Whether a thing is a row of any relation, integers in it of any size."""
    return is_tuple_of(thing, 1, 5) and all([is_free_worth(worth) for worth in thing])


def is_rising(keys):
    """Whether each of the keys is less than the one behind it."""
    return all([low < high for low, high in zip(keys, keys[1:])])


def worth_key(worth):
    """Numbers stand ahead of words, which Python itself does not compare with them."""
    return (1, worth) if isinstance(worth, str) else (0, worth)


def row_key(row):
    return tuple([worth_key(worth) for worth in row])


def fact_key(fact):
    """Facts, pairs (name, row), are ordered by their names, then by their rows."""
    return (fact[0], row_key(fact[1]))


def known_places(terms):
    """The ascending tuple of the places at which worths stand among worths and None."""
    return tuple([at for at, worth in enumerate(terms) if worth is not None])


def rows_in_order(rows):
    """The ascending tuple of the rows, each once."""
    once = {row: True for row in rows}
    return tuple(sorted(once, key=row_key))
