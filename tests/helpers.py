"""What several tests need: the document's examples, things of all kinds, and slow ways straight from its words."""

import copy
import itertools
import random

from shownviews.states import State, next_edit, with_edit

S = (("link", "bag", ("word", "word")), ("name", 1, ("word", "word")), ("stock", "sum", ("word", "number")))
NEAR = (("near", (("?", 0), ("?", 1))), (("is", "link", (("?", 0), ("?", 1))),))
FAR = (("near", (("?", 0), ("?", 2))), (("is", "near", (("?", 0), ("?", 1))), ("is", "link", (("?", 1), ("?", 2)))))
T = {"link": (("a", "b"), ("b", "c")), "name": (), "stock": ()}
ANY = ("any",)


def v(n):
    return ("?", n)


def rule(name, terms, *body):
    return ((name, tuple(terms)), tuple(body))


def deep(kind, depth):
    thing = kind()
    for _ in range(depth - 1):
        thing = {"a": thing} if kind is dict else kind([thing])
    return thing


def odd_things():
    """Objects of all kinds that a function that judges may be handed."""
    told = [None, True, False, 0, 1, -1, 10 ** 39, "", "a", "link", "rule", "x" * 20000, "\n", b"", b"link", [], {}, (),
            range(3), print, int, object(), Ellipsis, NotImplemented, ValueError("x"), State(S), slice(1), bytearray(2)]
    told += [deep(tuple, 30), deep(list, 30), deep(dict, 30), (1,) * 19999, ("a",) * 19999, ((),) * 9999, [()] * 9999]
    told += [{n: n for n in range(5000)}, {(): ()}, {None: None, "a": (), 3: [], b"a": {}}]
    told += [(thing,) for thing in list(told)] + [[thing] for thing in list(told)[:12]]
    told += [(thing, thing) for thing in list(told)[:28]] + [(thing, thing, thing) for thing in list(told)[:28]]
    words = ["put", "take", "add", "bring", "drop", "rule", "unrule", "is", "not", "less", "many", "sum", "least", "?"]
    for word in words:
        for thing in told[:36]:
            told.append((word, thing))
            told.append((word, "link", thing))
            told.append((word, thing, thing, thing))
    return told


def sort_of(thing):
    """The sort of a worth, None for what is none of those that stand among things of all kinds."""
    if type(thing) is int and len(str(abs(thing))) <= 20:
        return "number"
    return "word" if type(thing) is str and len(thing) <= 20 and thing.isascii() and thing != "\n" else None


def parts_put_otherwise(thing, others):
    """All things that come about by one part of nested tuples being another one."""
    for other in others:
        yield other
    if isinstance(thing, tuple):
        for at, part in enumerate(thing):
            for told in parts_put_otherwise(part, others):
                yield (*thing[:at], told, *thing[at + 1:])


def unchanged(case, call, *given):
    """What the call returns; its arguments must be as they were, whatever it does."""
    kept = copy.deepcopy(given)
    try:
        return call(*given)
    finally:
        case.assertEqual(given, kept)


# States, straight from the words of point 1.4.

def saw(seen, life, number):
    return any(other == life and number <= last for other, last in seen)


def slow_state(schema, edits):
    """The pair of mark and height, and the four dicts of a lot of edits, each by its definition."""
    lives = sorted({edit[0] for edit in edits})
    mark = tuple((life, max(edit[1] for edit in edits if edit[0] == life)) for life in lives)
    height = max([edit[2] for edit in edits], default=0)
    kinds = {name: kind for name, kind, _ in schema}
    cells, sums, bags, rules = {}, {}, {}, {}
    for life, number, tall, _, deed in sorted(edits, key=lambda edit: (edit[2], edit[0])):
        if deed[0] == "put":
            many = kinds[deed[1]]
            cells[(deed[1], deed[2][:many])] = (tall, life, deed[2][many:])
        if deed[0] == "take":
            cells[(deed[1], deed[2])] = (tall, life, None)
        if deed[0] == "add":
            sums[(deed[1], deed[2], life)] = sums.get((deed[1], deed[2], life), 0) + deed[3]
        if deed[0] == "rule":
            rules[deed[1]] = (tall, life, deed[2])
        if deed[0] == "unrule":
            rules[deed[1]] = (tall, life, None)
        if deed[0] == "bring":
            drops = [edit for edit in edits if edit[4] == ("drop", deed[1], deed[2])]
            if not any(saw(edit[3], life, number) for edit in drops):
                bags.setdefault((deed[1], deed[2]), []).append((life, number))
    return (mark, height, cells, sums, {key: tuple(sorted(bags[key])) for key in bags}, rules)


def told_by(state):
    return (state.mark, state.height, state.cells(), state.sums(), state.bags(), state.rules())


def random_deed(chance):
    key = (chance.choice("kl"),)
    pair = (chance.choice("ab"), chance.choice("bc"))
    return chance.choice([
        ("put", "name", (*key, chance.choice("uvw"))), ("take", "name", key),
        ("add", "stock", key, chance.choice([-3, 3, 10 ** 20 - 1, -1])),
        ("bring", "link", pair), ("bring", "link", pair), ("drop", "link", pair),
        ("rule", chance.choice(["one", "two"]), chance.choice([NEAR, FAR])), ("unrule", chance.choice(["one", "two"]))])


def random_edits(chance, lives, many):
    """Edits of several houses that hear of one another now and then, in the order in which they came about."""
    houses = {life: State(S) for life in lives}
    told = []
    for _ in range(many):
        life = chance.choice(lives)
        edit = next_edit(houses[life], life, random_deed(chance))
        houses[life] = with_edit(houses[life], edit)
        told.append(edit)
        if chance.random() < 0.4:
            other = chance.choice(lives)
            for earlier in told:
                if saw(houses[life].mark, earlier[0], earlier[1]):
                    houses[other] = with_edit(houses[other], earlier)
    return told


def some_order(chance, edits):
    """The edits in some order, each behind those that it saw."""
    left = list(edits)
    told = []
    while left:
        ready = [edit for edit in left if not any(saw(edit[3], other[0], other[1]) for other in left)]
        edit = chance.choice(ready)
        left.remove(edit)
        told.append(edit)
    return told


def state_from(edits, schema=S):
    state = State(schema)
    for edit in edits:
        state = with_edit(state, edit)
    return state


# Books, straight from the words of points 2.2 and 2.3.

def slow_parts(condition):
    """The name, the terms and the n of a condition, None where it has none."""
    if condition[0] in ("less", "same", "unlike"):
        return (None, condition[1:], None)
    if condition[0] in ("is", "not"):
        return (condition[1], condition[2], None)
    return (condition[2], condition[3], condition[1])


def slow_variables(terms):
    return {term[1] for term in terms if isinstance(term, tuple) and term[0] == "?"}


def slow_all_variables(one):
    told = slow_variables(one[0][1])
    for condition in one[1]:
        _, terms, n = slow_parts(condition)
        told |= slow_variables(terms) | ({n} if n is not None else set())
    return told


def slow_is_safe(one):
    bound = set()
    for _ in range(30):
        for condition in one[1]:
            _, terms, n = slow_parts(condition)
            if condition[0] == "is":
                bound |= slow_variables(terms)
            if n is not None and slow_variables(terms) <= bound:
                bound.add(n)
    return slow_all_variables(one) <= bound


def slow_links(book):
    """The lots of pairs (name, other), and of those of them that are strong."""
    links, strong = set(), set()
    for one in book.values():
        for condition in one[1]:
            other = slow_parts(condition)[0]
            if other is not None:
                links.add((one[0][0], other))
                if condition[0] != "is":
                    strong.add((one[0][0], other))
    return links, strong


def slow_hung(book, name):
    told = {name}
    while True:
        more = told | {other for one, other in slow_links(book)[0] if one in told}
        if more == told:
            return told
        told = more


def slow_bar(schema, book, name):
    hung = slow_hung(book, name)
    titles = [title for title in sorted(book) if book[title][0][0] in hung]
    for title in titles:
        if not slow_is_safe(book[title]):
            return ("unsafe", title)
    places = {one: len(sorts) for one, _, sorts in schema}
    for title in sorted(book, reverse=True):
        places[book[title][0][0]] = len(book[title][0][1])
    for title in titles:
        stand = [book[title][0]] + [slow_parts(condition)[:2] for condition in book[title][1]]
        if any(one in places and len(terms) != places[one] for one, terms in stand):
            return ("places", title)
    links, strong = slow_links(book)
    for many in range(1, len(hung) + 1):
        rings = []
        for names in itertools.permutations(sorted(hung), many):
            steps = list(zip(names, names[1:] + names[:1]))
            if steps[0] in strong and all(step in links for step in steps):
                rings.append(names)
        if rings:
            return ("ring", min(rings))
    return None


def slow_layers(schema, book):
    """From all derived names without a bar to their layers."""
    names = {one[0][0] for one in book.values()}
    layers = {name: 0 for name in names if slow_bar(schema, book, name) is None}
    links, strong = slow_links(book)
    for _ in range(len(layers) + 1):
        for one, other in links:
            if one in layers and other in layers:
                layers[one] = max(layers[one], layers[other] + ((one, other) in strong))
    return layers


def order_of(worth):
    return (isinstance(worth, str), worth)


def slow_rows(rows):
    return tuple(sorted(rows, key=lambda row: [order_of(worth) for worth in row]))


def fitting(filling, terms, rows):
    """The rows that terms come to, some worths in the place of blanks."""
    wanted = [filling[term[1]] if isinstance(term, tuple) and term[0] == "?" else term for term in terms]
    return [row for row in rows if len(row) == len(wanted)
            and all(term == ANY or term == worth for term, worth in zip(wanted, row))]


def slow_count(condition, rows):
    if condition[0] == "many":
        return len(rows)
    worths = [row[condition[4]] for row in rows]
    if condition[0] == "sum":
        return sum(worth for worth in worths if isinstance(worth, int))
    pick = min if condition[0] == "least" else max
    return pick(worths, key=order_of) if worths else None


def slow_holds(condition, filling, rows):
    name, terms, n = slow_parts(condition)
    if name is None:
        low, high = [filling[term[1]] if isinstance(term, tuple) else term for term in terms]
        return {"less": order_of(low) < order_of(high), "same": low == high, "unlike": low != high}[condition[0]]
    found = fitting(filling, terms, rows.get(name, ()))
    if n is None:
        return bool(found) == (condition[0] == "is")
    worth = slow_count(condition, found)
    return worth is not None and worth == filling[n]


def slow_bound(filling, condition, row):
    told = dict(filling)
    for term, worth in zip(condition[2], row):
        if isinstance(term, tuple) and term[0] == "?":
            if told.setdefault(term[1], worth) != worth:
                return None
    return told


def slow_fillings(one, rows):
    """All fillings of a safe rule that hold: worths from rows for each "is", counts as they come, then all is tried."""
    told = [{}]
    for condition in one[1]:
        if condition[0] == "is":
            pairs = [(filling, row) for filling in told for row in rows.get(condition[1], ())]
            more = [slow_bound(filling, condition, row) for filling, row in pairs if len(row) == len(condition[2])]
            told = [dict(pairs) for pairs in {tuple(sorted(one.items())) for one in more if one is not None}]
    for filling in told:
        for _ in range(9):
            for condition in one[1]:
                name, terms, n = slow_parts(condition)
                if n is not None and n not in filling and slow_variables(terms) <= set(filling):
                    worth = slow_count(condition, fitting(filling, terms, rows.get(name, ())))
                    if worth is not None:
                        filling[n] = worth
    told = [filling for filling in told if slow_all_variables(one) == set(filling)]
    return [filling for filling in told if all(slow_holds(condition, filling, rows) for condition in one[1])]


def slow_fill(book, rows, group):
    """Puts the rows of a group of names in, round by round, and tells how many rounds bring some."""
    for name in group:
        rows[name] = set()
    many = 0
    while True:
        came = []
        for one in book.values():
            if one[0][0] in group:
                for filling in slow_fillings(one, rows):
                    came.append((one[0][0], fitted(filling, one[0][1])))
        if all(row in rows[name] for name, row in came):
            return many
        many += 1
        for name, row in came:
            rows[name].add(row)


def fitted(filling, terms):
    return tuple(filling[term[1]] if isinstance(term, tuple) else term for term in terms)


def slow_meaning(schema, book, tables):
    layers = slow_layers(schema, book)
    rows = dict(tables)
    for number in sorted(set(layers.values())):
        slow_fill(book, rows, [name for name in layers if layers[name] == number])
    return {name: slow_rows(rows[name]) for name in layers}


def slow_rounds(schema, book, tables, name):
    layers = slow_layers(schema, book)
    if name not in layers:
        return 0
    meant = slow_meaning(schema, book, tables)
    rows = {**tables, **{other: meant[other] for other in layers if layers[other] < layers[name]}}
    return slow_fill(book, rows, [other for other in slow_hung(book, name) if layers.get(other) == layers[name]])


# Books and tables by chance.

def random_term(chance, blanks=True):
    told = chance.random()
    if told < 0.75 or (told < 0.9 and not blanks):
        return v(chance.randrange(3))
    return ANY if told < 0.9 else chance.choice(["a", "b", 1, 2])


def random_condition(chance, names):
    kind = chance.choice(["is"] * 9 + ["not", "less", "same", "unlike", "many", "sum", "least", "greatest"])
    if kind in ("less", "same", "unlike"):
        return (kind, random_term(chance, False), random_term(chance, False))
    name = chance.choice([*sorted(names), "link", "link"])
    terms = tuple(random_term(chance) for _ in range(names[name]))
    if kind in ("is", "not"):
        return (kind, name, terms)
    if kind == "many":
        return (kind, chance.randrange(3), name, terms)
    at = chance.randrange(len(terms))
    return (kind, chance.randrange(3), name, (*terms[:at], ANY, *terms[at + 1:]), at)


def random_book(chance, names, derived):
    """A book of some rules, more of them safe than not."""
    told = {}
    for at in range(chance.randrange(1, 8)):
        for _ in range(12):
            name = chance.choice(derived)
            body = [random_condition(chance, names) for _ in range(chance.randrange(1, 5))]
            one = rule(name, [random_term(chance, False) for _ in range(names[name])], *body)
            if slow_is_safe(one):
                break
        told["r" + "abcdefgh"[at]] = one
    return told


def rich_book(chance, names, derived):
    """The same with rules ahead by which some names have rows."""
    told = random_book(chance, names, derived)
    for at, name in enumerate(chance.sample(derived, 2)):
        terms = [v(0), v(1)][:names[name]]
        told["q" + "ab"[at]] = rule(name, terms, ("is", "link", (v(0), v(1))))
    return told


def random_tables(chance):
    worths = ["a", "b", "c"]
    link = {(chance.choice(worths), chance.choice(worths)) for _ in range(chance.randrange(8))}
    name = {(chance.choice(worths), chance.choice(worths)) for _ in range(chance.randrange(5))}
    stock = {(chance.choice(worths), chance.choice([1, 2, -1, 10 ** 30])) for _ in range(chance.randrange(6))}
    return {"link": tuple(sorted(link)), "name": tuple(sorted(name)), "stock": tuple(sorted(stock))}


def chances(many):
    return [random.Random(seed) for seed in range(many)]
