"""What a change of facts touches, and how much stands round that."""

from shownviews.books import check_book, telling_names
from shownviews.changes import check_change
from shownviews.fillings import worths_of
from shownviews.going import led_through
from shownviews.meanings import check_tables, fill_layers
from shownviews.relations import relations_of
from shownviews.ruleparts import COMPARISONS, head_name, name_in, terms_in
from shownviews.touching import ANY_WORD, STRONG, facts_round, touches_of


def near(schema, book, tables, gone, come):
    """The triple of how many facts a change takes out, with all that hang on them, of how many it puts in likewise,
    and of how much stands round them."""
    check_book(schema, book)
    check_tables(schema, tables)
    ahead = relations_of(tables)
    check_change(schema, ahead, gone, come)
    behind = relations_of(tables)
    for name, row in gone:
        behind.take(name, row)
    for name, row in come:
        behind.put(name, row)
    names = telling_names(schema, book)
    for relations in (ahead, behind):
        fill_layers(relations, book, names)
    asking, heads = touches_of([book[title] for title in sorted(book) if head_name(book[title]) in names])
    out, put = touched(ahead, behind, asking, gone, come)
    both = either(ahead, behind, [relation[0] for relation in schema] + names)
    for fact in [*out, *[other for other in put if other not in out]]:
        for touch in asking.get(fact[0], []) + heads.get(fact[0], []):
            go_round(both, touch, fact[1])
    return (len(out), len(put), both.sought)


def touched(ahead, behind, asking, gone, come):
    """The pair of the facts that the change takes out, with the rows of all instances ahead of it that hang on what is
    touched, and of those that it puts in likewise, both as the keys of dicts."""
    out = {}
    put = {}
    waiting = [(fact, True) for fact in gone] + [(fact, False) for fact in come]
    while waiting:
        fact, is_out = waiting.pop()
        found = out if is_out else put
        if fact not in found:
            found[fact] = True
            lost = facts_round(ahead, asking, fact, ANY_WORD if is_out else STRONG)
            won = facts_round(behind, asking, fact, STRONG if is_out else ANY_WORD)
            waiting.extend([(other, True) for other in lost] + [(other, False) for other in won])
    return (out, put)


def either(ahead, behind, names):
    """The rows that are there ahead or behind, not looked at yet."""
    told = relations_of({name: ahead.rows_of(name) + behind.rows_of(name) for name in names})
    told.sought = 0
    return told


def go_round(relations, touch, row):
    """Looks at what stands round a row that fits at a place of a rule: the patterns of the "is" conditions, by their
    numbers, and those of the others behind them."""
    first = touch.told_by(row)
    if first is None:
        return
    fillings = [first]
    others = []
    for at, condition in enumerate(touch.rule[1]):
        if condition[0] == "is" and at != touch.skipped:
            fillings = led_through(relations, fillings, condition)
        elif condition[0] not in ("is", *COMPARISONS):
            others.append(condition)
    for filling in fillings:
        for condition in others:
            relations.fitting(name_in(condition), worths_of(filling, terms_in(condition)))
