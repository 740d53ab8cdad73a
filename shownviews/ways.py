"""Ways through the conditions of safe rules, by which all rows that their heads come to are found."""

from shownviews.fillings import bound_by_each, led_on, worths_of
from shownviews.ruleparts import are_known, head_name, terms_in, variables_at, variables_in

NEVER = 1000


def way_through(rule, first):
    """The pairs (condition, variables that are needed behind it) of a rule, in an order in which each can be gone by,
    the one of the number first at the beginning, where that is not None."""
    head, body = rule
    way = []
    left = list(range(len(body)))
    known = {}
    while left:
        at = first if first is not None and not way else next_at(body, left, known)
        left.remove(at)
        known.update({n: True for n in variables_at(body[at])})
        wanted = needed(head, [body[other] for other in left])
        way.append((body[at], [n for n in sorted(known) if n in wanted]))
    return way


def next_at(body, left, known):
    """The number of the condition to go by next: the one that leads on to the fewest fillings, as far as one knows."""
    return min([(cost(body[at], known), at) for at in left])[1]


def cost(condition, known):
    """How many variables an "is" brings; other conditions only narrow, but wait until all their terms are known."""
    if condition[0] == "is":
        return 1 + len([n for n in variables_in(condition[2]) if n not in known])
    return 0 if are_known(variables_in(terms_in(condition)), known) else NEVER


def needed(head, conditions):
    """The variables of a head and of some conditions, as the keys of a dict."""
    told = {n: True for n in variables_in(head[1])}
    for condition in conditions:
        told.update({n: True for n in variables_at(condition)})
    return told


def rows_by(relations, rule, way, fresh):
    """The rows to which the head comes by a way, as the keys of a dict.

    The first condition of the way is over the fresh rows alone, where these are not None.
    """
    fillings = [{}]
    left = way
    if fresh is not None:
        first, wanted = way[0]
        fillings = cut_to(bound_by_each({}, first[2], fresh), wanted)
        left = way[1:]
    for condition, wanted in left:
        ahead = [more for filling in fillings for more in led_on(relations, filling, condition)]
        fillings = cut_to(ahead, wanted)
    terms = rule[0][1]
    return {worths_of(filling, terms): True for filling in fillings}


def cut_to(fillings, wanted):
    """The fillings with the wanted variables alone, equal ones once."""
    once = {tuple([filling[n] for n in wanted]): True for filling in fillings}
    return [dict(zip(wanted, worths)) for worths in once]


def ways_from_rows(rule, group):
    """The triples (name, rule, way) for each "is" of a rule over a name of the group; the way begins with it."""
    body = rule[1]
    starts = [at for at in range(len(body)) if body[at][0] == "is" and body[at][1] in group]
    return [(body[at][1], rule, way_through(rule, at)) for at in starts]


def fill(relations, rules, group):
    """Puts in all rows of the names of a group, of which there are none yet, to which the rules lead.

    In each round the rows come that the rules give over the rows ahead of it; told is how many rounds bring some.
    """
    ways = [way for rule in rules for way in ways_from_rows(rule, group)]
    # A rule that asks a name of the group gives nothing in the first round; the others give nothing new behind it.
    came = {}
    for rule in rules:
        if not ways_from_rows(rule, group):
            gather(came, relations, rule, rows_by(relations, rule, way_through(rule, None), None))
    many = 0
    while came:
        many += 1
        fresh = put_all(relations, came)
        came = {}
        # What is new comes by a filling with a row that came in the round ahead.
        for name, rule, way in ways:
            if name in fresh:
                gather(came, relations, rule, rows_by(relations, rule, way, fresh[name]))
    return many


def gather(came, relations, rule, rows):
    """Puts in, with the name of the rule's head, those of the rows that are not there yet."""
    name = head_name(rule)
    for row in rows:
        if not relations.has(name, row):
            came[(name, row)] = True


def put_all(relations, facts):
    """Puts in the facts, and tells them as a dict from names to lists of rows."""
    told = {}
    for name, row in facts:
        relations.put(name, row)
        told.setdefault(name, []).append(row)
    return told
