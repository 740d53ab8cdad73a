"""Whether a lot of patterns asked and rows claimed is closed for a question, by going through rules alone."""

from shownviews.asking import Asker
from shownviews.fillings import worths_of
from shownviews.going import filling_of, head_row, is_filling
from shownviews.hanging import layers_of, links_of
from shownviews.meanings import names_below
from shownviews.patterns import is_pattern
from shownviews.ruleparts import head_name
from shownviews.worths import is_free_row, is_name, is_number, is_tuple_of


def closed_asker(book, orders, relations, question, thing):
    """The Asker over the relations, into which the rows claimed are put, None for what is no closed lot for a question
    whose name has no bar; the relations have the rows of the tables alone at first."""
    names = names_below(book, question[0])
    if not is_lot(book, names, question, thing):
        return None
    asked, claimed = thing
    for claim in claimed:
        relations.put(claim[0], claim[1])
    asker = Asker(book, relations)
    came = came_through(asker, orders, asked, claimed)
    if came is None:
        return None
    heights = {(name, row): height for name, row, height, _, _ in claimed}
    layers = layers_of(links_of(book), names)
    grounded = [is_grounded(book, relations, came, layers, heights, claim) for claim in claimed]
    return asker if all(grounded) else None


def is_lot(book, names, question, thing):
    """Whether a thing is a pair of patterns asked, the question among them if it is of a derived name, and of claims,
    of these names and each once."""
    if not is_tuple_of(thing, 2, 2) or not isinstance(thing[0], tuple) or not isinstance(thing[1], tuple):
        return False
    asked, claimed = thing
    if not all([is_pattern(part) and part[0] in names for part in asked]):
        return False
    if not all([is_claim(book, names, part) for part in claimed]):
        return False
    if len(set(asked)) < len(asked) or len(set([part[:2] for part in claimed])) < len(claimed):
        return False
    return question in asked or question[0] not in names


def is_claim(book, names, thing):
    """Whether a thing is a tuple (name, row, height, rule's name, filling) as one may be claimed of a list of names."""
    if not is_tuple_of(thing, 5, 5):
        return False
    name, row, height, title, filling = thing
    if name not in names or not is_free_row(row) or not is_number(height):
        return False
    return is_rule_for(book, name, title) and is_filling(book[title], filling)


def is_rule_for(book, name, thing):
    """Whether a thing is the name of a rule for a name."""
    return is_name(thing) and thing in book and head_name(book[thing]) == name


def came_through(asker, orders, asked, claimed):
    """The pairs (rule's name, filling) that come through, as the keys of a dict, None if the lot is not closed."""
    wanted = {pattern: True for pattern in asked}
    facts = {claim[:2]: True for claim in claimed}
    came = {}
    for pattern in asked:
        for title, found, fillings in asker.all_through(orders, pattern):
            if not all([more in wanted or not asker.is_derived(more[0]) for more in found]):
                return None
            for filling in fillings:
                if (pattern[0], asker.row_of(title, filling)) not in facts:
                    return None
                came[(title, filling_of(filling))] = True
    return came


def is_grounded(book, relations, came, layers, heights, claim):
    """Whether a claim's filling comes through and leads to its row, and stands on lesser heights."""
    name, row, height, title, pairs = claim
    filling = dict(pairs)
    if (title, pairs) not in came or head_row(book[title], filling) != row:
        return False
    for condition in book[title][1]:
        if condition[0] == "is" and layers.get(condition[1]) == layers[name]:
            rows = relations.fitting(condition[1], worths_of(filling, condition[2]))
            if not any([heights[(condition[1], other)] < height for other in rows]):
                return False
    return True
