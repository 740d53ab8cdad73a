"""Slow ways straight from the words of the document, for what goes through rules, for changes and for trees."""

import functools
import itertools

from tests.helpers import (ANY, fitted, order_of, slow_all_variables, slow_count, slow_fillings, slow_hung, slow_layers,
                           slow_meaning, slow_parts, slow_variables)


def is_var(term):
    return isinstance(term, tuple) and term[0] == "?"


def rows_of_all(schema, book, tables):
    """The rows of all names, those of derived ones by the meaning."""
    return {**tables, **slow_meaning(schema, book, tables)}


def fits(row, terms):
    return len(row) == len(terms) and all(worth is None or worth == one for worth, one in zip(terms, row))


def known_terms(filling, terms):
    return tuple(None if term == ANY else filling.get(term[1]) if is_var(term) else term for term in terms)


def with_row(filling, terms, row):
    """The filling with what a row tells of terms, None if they can not come to it; None in a row tells nothing."""
    told = dict(filling)
    if len(terms) != len(row):
        return None
    for term, worth in zip(terms, row):
        if worth is None or term == ANY:
            continue
        if is_var(term):
            if told.setdefault(term[1], worth) != worth:
                return None
        elif term != worth:
            return None
    return told


def distinct(fillings):
    return [dict(pairs) for pairs in dict.fromkeys(tuple(sorted(one.items())) for one in fillings)]


# Points 3.1 to 3.4.

def slow_orders(one, lot):
    """All orders of a rule for a lot of places, the least first."""
    told = []
    for order in itertools.permutations(range(len(one[1]))):
        known = {one[0][1][at][1] for at in lot if is_var(one[0][1][at])}
        for at in order:
            _, terms, n = slow_parts(one[1][at])
            if one[1][at][0] != "is" and not slow_variables(terms) <= known:
                break
            if one[1][at][0] == "is":
                known |= slow_variables(terms)
            if n is not None:
                known.add(n)
        else:
            told.append(order)
    return told


def lot_of(pattern):
    return tuple(at for at, worth in enumerate(pattern[1]) if worth is not None)


def order_for(book, plan, title, pattern):
    if len(book[title][0][1]) != len(pattern[1]):
        return ()
    for name, lot, order in plan:
        if (name, lot) == (title, lot_of(pattern)):
            return order
    return slow_orders(book[title], lot_of(pattern))[0]


def slow_step(condition, filling, rows):
    """The pair of the pattern come to, None of a comparison, and of the fillings led on to."""
    name, terms, n = slow_parts(condition)
    wanted = known_terms(filling, terms)
    if name is None:
        low, high = wanted
        holds = {"less": order_of(low) < order_of(high), "same": low == high, "unlike": low != high}[condition[0]]
        return None, [filling] if holds else []
    found = [row for row in rows.get(name, ()) if fits(row, wanted)]
    if condition[0] == "is":
        told = [with_row(filling, terms, row) for row in found]
        return (name, wanted), [one for one in told if one is not None]
    if condition[0] == "not":
        return (name, wanted), [] if found else [filling]
    worth = slow_count(condition, found)
    if worth is None or filling.get(n, worth) != worth:
        return (name, wanted), []
    return (name, wanted), [{**filling, n: worth}]


def slow_stages(one, order, pattern, rows):
    """The pair of the patterns come to and of the lists of fillings ahead of each condition and behind the last."""
    first = with_row({}, one[0][1], pattern[1])
    told = [[] if first is None else [first]]
    come = []
    for at in order:
        behind = []
        for filling in told[-1]:
            to, led = slow_step(one[1][at], filling, rows)
            come += [to] if to else []
            behind += led
        told.append(distinct(behind))
    return come, told


def titles_of(book, name):
    return [title for title in sorted(book) if book[title][0][0] == name]


def slow_closed(schema, book, plan, tables, question, thing):
    """Whether a pair of asked and claimed, of the right form, is a closed lot."""
    asked, claimed = thing
    names = slow_hung(book, question[0]) & {one[0][0] for one in book.values()}
    if len(set(asked)) < len(asked) or not {name for name, _ in asked} <= names:
        return False
    if question[0] in names and question not in asked:
        return False
    facts = [claim[:2] for claim in claimed]
    if len(set(facts)) < len(facts):
        return False
    rows = {**tables, **{name: [row for other, row in facts if other == name] for name in names}}
    came = set()
    for pattern in asked:
        for title in titles_of(book, pattern[0]):
            one = book[title]
            come, told = slow_stages(one, order_for(book, plan, title, pattern), pattern, rows)
            if any(name in names and (name, terms) not in asked for name, terms in come):
                return False
            for filling in told[-1]:
                came.add((title, tuple(sorted(filling.items()))))
                if (pattern[0], fitted(filling, one[0][1])) not in facts:
                    return False
    layers = slow_layers(schema, book)
    for name, row, height, title, pairs in claimed:
        one, filling = book[title], dict(pairs)
        if one[0][0] != name or (title, pairs) not in came or fitted(filling, one[0][1]) != row:
            return False
        for condition in one[1]:
            if condition[0] == "is" and condition[1] in names and layers[condition[1]] == layers[name]:
                wanted = known_terms(filling, condition[2])
                if not any(other[0] == condition[1] and fits(other[1], wanted) and other[2] < height
                           for other in claimed):
                    return False
    return True


def slow_least(book, plan, rows, question, schema):
    """The triple of the patterns asked, of the facts claimed and of the stretches come to of the least closed lot."""
    derived = {one[0][0] for one in book.values()}
    asked = {question} & {(name, question[1]) for name in derived}
    facts, stretches = set(), set()
    if question[0] in [name for name, _, _ in schema]:
        stretches.add(slow_stretch(question))
    waiting = list(asked)
    while waiting:
        pattern = waiting.pop()
        for title in titles_of(book, pattern[0]):
            come, told = slow_stages(book[title], order_for(book, plan, title, pattern), pattern, rows)
            facts |= {(pattern[0], fitted(filling, book[title][0][1])) for filling in told[-1]}
            stretches |= {slow_stretch(to) for to in come if to[0] in [name for name, _, _ in schema]}
            fresh = {to for to in come if to[0] in derived} - asked
            asked |= fresh
            waiting += list(fresh)
    return asked, facts, stretches


def slow_stretch(pattern):
    low = tuple(itertools.takewhile(lambda worth: worth is not None, pattern[1]))
    return (pattern[0], low, low)


def slow_plans(book, rows, question, schema, most):
    """All plans as they are told apart, each with its seeks; None if there are more than most."""
    begun, told = [()], []
    while begun:
        if len(begun) + len(told) > most:
            return None
        plan = begun.pop()
        pair = slow_open(book, plan, rows, question)
        if pair is None:
            asked, _, stretches = slow_least(book, plan, rows, question, schema)
            told.append((len(asked) + len(stretches), plan))
        else:
            title, lot = pair
            begun += [tuple(sorted([*plan, (title, lot, order)])) for order in slow_orders(book[title], lot)]
    return told


def slow_open(book, plan, rows, question):
    """A rule and lot that are gone by, by what the plan tells alone, and have no order in it."""
    asked, waiting = {question}, [question]
    while waiting:
        pattern = waiting.pop()
        for title in titles_of(book, pattern[0]):
            if len(book[title][0][1]) != len(pattern[1]):
                continue
            if (title, lot_of(pattern)) not in [part[:2] for part in plan]:
                return title, lot_of(pattern)
            come, _ = slow_stages(book[title], order_for(book, plan, title, pattern), pattern, rows)
            fresh = set(come) - asked
            asked |= fresh
            waiting += list(fresh)
    return None


# Point 4.2.

def changed(tables, gone, come):
    """The tables behind a change."""
    facts = {(name, row) for name in tables for row in tables[name]}
    facts = (facts - set(gone)) | set(come)
    order = {name: sorted([row for other, row in facts if other == name], key=lambda row: [order_of(w) for w in row])
             for name in tables}
    return {name: tuple(order[name]) for name in tables}


def touches(fact, condition, filling):
    name, terms, _ = slow_parts(condition)
    return name == fact[0] and fits(fact[1], known_terms(filling, terms))


def slow_near(schema, book, tables, gone, come):
    telling = slow_layers(schema, book)
    rules = [one for one in book.values() if one[0][0] in telling]
    ahead = rows_of_all(schema, book, tables)
    behind = rows_of_all(schema, book, changed(tables, gone, come))
    lots = (set(gone), set(come))
    instances = [[(one, filling) for one in rules for filling in slow_fillings(one, rows)] for rows in (ahead, behind)]
    grown = True
    while grown:
        sizes = [len(lot) for lot in lots]
        for side in (0, 1):
            for one, filling in instances[side]:
                for condition in one[1]:
                    facts = lots[side] if condition[0] == "is" else lots[0] | lots[1]
                    if any(touches(fact, condition, filling) for fact in facts):
                        lots[side].add((one[0][0], fitted(filling, one[0][1])))
        grown = sizes != [len(lot) for lot in lots]
    both = {name: set(ahead.get(name, ())) | set(behind.get(name, ())) for name in [*ahead, *behind]}
    total = 0
    for name, row in lots[0] | lots[1]:
        for one in rules:
            for at, condition in enumerate(one[1]):
                if slow_parts(condition)[0] == name:
                    total += slow_around(both, one, with_row({}, slow_parts(condition)[1], row), at)
            if one[0][0] == name:
                total += slow_around(both, one, with_row({}, one[0][1], row), None)
    return len(lots[0]), len(lots[1]), total


def slow_around(both, one, first, fitting_at):
    if first is None:
        return 0
    total, fillings = 0, [first]
    for at, condition in enumerate(one[1]):
        if condition[0] == "is" and at != fitting_at:
            led = []
            for filling in fillings:
                wanted = known_terms(filling, condition[2])
                found = [row for row in both.get(condition[1], ()) if fits(row, wanted)]
                total += 1 + len(found)
                led += [with_row(filling, condition[2], row) for row in found]
            fillings = distinct([filling for filling in led if filling is not None])
    for filling in fillings:
        for condition in one[1]:
            if condition[0] in ("not", "many", "sum", "least", "greatest"):
                name, terms, _ = slow_parts(condition)
                total += 1 + len([row for row in both.get(name, ()) if fits(row, known_terms(filling, terms))])
    return total


# Point 2.5.

def slow_is_proof(schema, book, rows, name, row, thing):
    """Whether a tuple of steps, of the right form, is a proof."""
    derived = {one[0][0] for one in book.values()}
    facts = [step[:2] for step in thing]
    if not thing or facts[-1] != (name, row) or len(set(facts)) < len(facts):
        return False
    for at, (other, found, title, pairs) in enumerate(thing):
        filling, one = dict(pairs), book.get(title)
        if other not in slow_hung(book, name) & derived or one is None or one[0][0] != other:
            return False
        if tuple(sorted(slow_all_variables(one))) != tuple(n for n, _ in pairs) or fitted(filling, one[0][1]) != found:
            return False
        if filling not in slow_fillings(one, rows):
            return False
        for condition in one[1]:
            if condition[0] == "is" and condition[1] in derived:
                wanted = known_terms(filling, condition[2])
                if not any(fact[0] == condition[1] and fits(fact[1], wanted) for fact in facts[:at]):
                    return False
    return True


# Points 5.1 to 5.6.

SIGNS = "\n" + "".join(chr(at) for at in range(32, 127))
NUMBERS = {sign: SIGNS.index(sign) for sign in SIGNS}


def slow_mix(p, text):
    m = 1
    for sign in text:
        x = NUMBERS[sign]
        m = (m ** 2 + 3 * m * x + x + 5) % p
    return m


def slow_worth_text(worth):
    if isinstance(worth, int):
        return str(worth)
    return "'" + "".join("~" + sign if sign in "'~" else sign for sign in worth) + "'"


def slow_fact_text(fact):
    return fact[0] + "(" + ",".join(slow_worth_text(worth) for worth in fact[1]) + ")"


@functools.lru_cache(maxsize=None)
def slow_number(p, fact):
    return slow_mix(p, slow_fact_text(fact))


def slow_rank(p, fact):
    return max(r for r in range(7) if (slow_number(p, fact) + 1) % 4 ** r == 0)


def slow_tree(p, facts, place=(None, None)):
    """The dict from places to pairs (list that is mixed, all facts there) of the tree of some facts; the part itself
    comes first."""
    ranks = [slow_rank(p, fact) for fact in facts]
    if not any(ranks):
        return {place: ([1] + [slow_number(p, fact) for fact in facts], tuple(facts))}
    own = [fact for fact, rank in zip(facts, ranks) if rank == max(ranks)]
    bounds = [None] + [facts.index(fact) for fact in own] + [None]
    told, listed = {place: None}, [2]
    for at, (low, high) in enumerate(zip(bounds, bounds[1:])):
        inner = facts[0 if low is None else low + 1:high]
        round_it = (place[0] if low is None else facts[low], place[1] if high is None else facts[high])
        child = slow_tree(p, inner, round_it)
        told.update(child)
        listed += [slow_tree_number(p, child, round_it), len(inner)]
        listed += [slow_number(p, facts[high])] if high is not None else []
    told[place] = (listed, tuple(facts))
    return told


def slow_tree_number(p, tree, place=(None, None)):
    return slow_mix(p, ",".join(str(number) for number in tree[place][0]))


def slow_in(stretch, fact):
    name, low, high = stretch
    row = [order_of(worth) for worth in fact[1]]
    if fact[0] != name or (low is not None and row[:len(low)] < [order_of(worth) for worth in low]):
        return False
    return high is None or row[:len(high)] <= [order_of(worth) for worth in high]


def slow_below(stretch, fact):
    name, low, _ = stretch
    row = [order_of(worth) for worth in fact[1]]
    if slow_in(stretch, fact):
        return False
    return fact[0] < name or (fact[0] == name and low is not None
                              and row[:len(low)] < [order_of(worth) for worth in low])


def slow_shut(stretches, place):
    ahead, behind = place
    for stretch in stretches:
        under = behind is not None and slow_below(stretch, behind)
        over = ahead is not None and not slow_below(stretch, ahead) and not slow_in(stretch, ahead)
        if not under and not over:
            return False
    return True


def slow_shown(p, facts, stretches, place=(None, None)):
    ranks = [slow_rank(p, fact) for fact in facts]
    if not any(ranks):
        return ("leaf", tuple(facts))
    own = [fact for fact, rank in zip(facts, ranks) if rank == max(ranks)]
    bounds = [None] + [facts.index(fact) for fact in own] + [None]
    told = []
    for low, high in zip(bounds, bounds[1:]):
        inner = facts[0 if low is None else low + 1:high]
        round_it = (place[0] if low is None else facts[low], place[1] if high is None else facts[high])
        if slow_shut(stretches, round_it):
            told.append(("cut", slow_tree_number(p, slow_tree(p, inner, round_it), round_it), len(inner)))
        else:
            told.append(slow_shown(p, inner, stretches, round_it))
    return ("node", tuple(told), tuple(own))


def slow_texts(p, showing):
    """All texts that are mixed in a showing."""
    if showing[0] == "cut":
        return []
    facts = showing[-1]
    told = [slow_fact_text(fact) for fact in facts]
    if showing[0] == "leaf":
        return told + [",".join(str(number) for number in [1] + [slow_number(p, fact) for fact in facts])]
    listed = [2]
    for at, child in enumerate(showing[1]):
        told += slow_texts(p, child)
        listed += slow_root(p, child)
        listed += [slow_number(p, fact) for fact in facts[at:at + 1]]
    return told + [",".join(str(number) for number in listed)]


def slow_root(p, showing):
    """The pair of the number and of how many facts of a showing, or of what is cut."""
    if showing[0] == "cut":
        return showing[1:]
    many = len(showing[-1])
    if showing[0] == "node":
        many += sum(slow_root(p, child)[1] for child in showing[1])
    return (slow_mix(p, slow_texts(p, showing)[-1]), many)
