"""What facts touch: the rules of which they fit a condition, and the instances of these that stand round them."""

from shownviews.fillings import bound_by
from shownviews.going import head_row, led_through
from shownviews.ruleparts import (COMPARISONS, are_known, head_name, is_variable_term, name_in, terms_in, variables_at,
                                  variables_in)

POSITIVE = ("is",)
ANY_WORD = ("is", "not", "many", "sum", "least", "greatest")
STRONG = ("not", "many", "sum", "least", "greatest")


class Touch:
    """A place of a rule that facts may fit, the head or a condition with a name, and the way on from there."""

    def __init__(self, rule, word, terms, at):
        self.rule = rule
        # The word of the condition, None of the head.
        self.word = word
        self._terms = terms
        self.skipped = at if word == "is" else None
        self._way = way_on(rule, variables_in(terms), self.skipped)

    def told_by(self, row):
        """The filling of what a row tells of the variables here, None if it does not fit."""
        return bound_by({}, self._terms, row) if len(row) == len(self._terms) else None

    def rows_round(self, rows, row):
        """The rows to which the head comes by the instances over some rows in which a row fits here, each once."""
        first = self.told_by(row)
        fillings = [] if first is None else [first]
        for condition in self._way:
            fillings = led_through(rows, fillings, condition)
        return list({head_row(self.rule, filling): True for filling in fillings})

    def prepare(self, relations):
        """Makes relations ready for the patterns that are sought on the way, so that no change reads whole tables."""
        known = {n: True for n in variables_in(self._terms)}
        for condition in self._way:
            terms = terms_in(condition)
            if name_in(condition) is not None:
                places = [at for at, term in enumerate(terms) if is_told(term, known)]
                relations.prepare(name_in(condition), len(terms), tuple(places))
            known.update({n: True for n in variables_at(condition)})


def is_told(term, known):
    """Whether the worth of a term is known where some variables are."""
    if is_variable_term(term):
        return term[1] in known
    return not isinstance(term, tuple)


def way_on(rule, numbers, skipped):
    """The conditions of a safe rule, but for a skipped one, in the order in which they are gone by from a fact that
    tells the variables of some numbers.

    Those with "is" come by their numbers, and all "not" and counts behind them: so no more is looked at than what
    stands round the fact as it is counted for a change.
    """
    body = rule[1]
    known = {n: True for n in numbers}
    left = [at for at in range(len(body)) if at != skipped]
    told = []
    while left:
        at = min([(rank(body[other], known), other) for other in left])[1]
        left.remove(at)
        told.append(body[at])
        known.update({n: True for n in variables_at(body[at])})
    return told


def rank(condition, known):
    """When to go by a condition: comparisons as soon as they can be, "is" next, all else when it can be."""
    if condition[0] == "is":
        return 1
    if not are_known(variables_in(terms_in(condition)), known):
        return 3
    return 0 if condition[0] in COMPARISONS else 2


def touches_of(rules):
    """The pair of dicts from names to the Touches at conditions with them, and at heads of rules for them."""
    asking = {}
    heads = {}
    for rule in rules:
        head = Touch(rule, None, rule[0][1], None)
        heads.setdefault(head_name(rule), []).append(head)
        for at, condition in enumerate(rule[1]):
            if name_in(condition) is not None:
                touch = Touch(rule, condition[0], terms_in(condition), at)
                asking.setdefault(name_in(condition), []).append(touch)
    return (asking, heads)


def facts_round(rows, asking, fact, words):
    """The facts of the instances over some rows in which a fact fits a condition with one of the words."""
    told = {}
    for touch in asking.get(fact[0], []):
        if touch.word in words:
            for row in touch.rows_round(rows, fact[1]):
                told[(head_name(touch.rule), row)] = True
    return list(told)
