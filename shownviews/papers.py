"""Answers with papers, and the judge who takes them by a root number alone."""

from shownviews.books import bar_of
from shownviews.closing import closed_asker
from shownviews.edits import is_mark
from shownviews.errors import BadText, NoRoot, NoShowing
from shownviews.lots import MOST_PLANS, better, whole_answer
from shownviews.mixing import check_prime, mixed
from shownviews.patterns import check_pattern
from shownviews.plans import check_plan, is_plan_of, orders_in
from shownviews.relations import Relations
from shownviews.roots import root_text, tree_of
from shownviews.ruletexts import read_rule
from shownviews.schemas import check_schema, is_table_row, relation_of
from shownviews.showings import clash, facts_in, is_enough, read_part, shown
from shownviews.states import tables, titles
from shownviews.stretches import is_in
from shownviews.worths import is_free_row, is_number, is_tuple_of, rows_in_order

# The stretch of all rules, by which each paper tells its book.
RULES = ("rule", None, None)


def answer_of(p, state, plan, question):
    """The Answer of a State to a question: the triple of its mark, of the rows or the bar, and of a paper."""
    check_prime(p)
    book = titles(state)
    check_plan(book, plan)
    check_pattern(question)
    return answered(p, state, book, plan, question)


def answered(p, state, book, plan, question):
    """As answer_of, of what is checked already."""
    tree = tree_of(p, state)
    why = bar_of(state.schema, book, question[0])
    if why is not None:
        return (state.mark, why, ((), (), (), shown(tree, (RULES,))))
    rows, lot, stretches = whole_answer(state.schema, book, plan, tables(state), question)
    return (state.mark, rows, (plan, *lot, shown(tree, (RULES, *stretches))))


def least_paper(p, state, question):
    """An Answer by the plan by which the fewest patterns and stretches are sought."""
    check_prime(p)
    check_pattern(question)
    book = titles(state)
    plan = ()
    if bar_of(state.schema, book, question[0]) is None:
        plan = better(state.schema, book, tables(state), question, MOST_PLANS)
    return answered(p, state, book, plan, question)


def cost(answer):
    """The triple of how many facts, how many cuts, and how many patterns asked and rows claimed a paper has."""
    _, asked, claimed, showing = answer[2]
    return (len(facts_in(showing)), cuts_in(showing), len(asked) + len(claimed))


def cuts_in(showing):
    if showing[0] == "cut":
        return 1
    return sum([cuts_in(child) for child in showing[1]]) if showing[0] == "node" else 0


def judge(schema, p, root, question, answer):
    """Whether an answer to a question is taken, by a root number alone."""
    check_schema(schema)
    check_prime(p)
    if not is_number(root):
        raise NoRoot()
    check_pattern(question)
    return is_taken(schema, p, root, question, answer)


def is_taken(schema, p, root, question, answer):
    """As judge, of what is checked already, but for the answer."""
    part = part_of(p, answer)
    if part is None or mixed(p, root_text(answer[0], part.number, part.many)) != root:
        return False
    _, told, paper = answer
    facts = facts_in(paper[3])
    book = book_shown(schema, part, facts)
    if book is None:
        return False
    why = bar_of(schema, book, question[0])
    if why is not None:
        return told == why
    return are_rows(told) and told == rows_shown(schema, book, part, facts, question, paper)


def part_of(p, thing):
    """What the showing tells of which a thing's paper has, None for what is no triple of a mark, of what is told and
    of a tuple of four with a showing."""
    if not is_tuple_of(thing, 3, 3) or not is_mark(thing[0]) or not is_tuple_of(thing[2], 4, 4):
        return None
    try:
        return read_part(p, thing[2][3])
    except NoShowing:
        return None


def book_shown(schema, part, facts):
    """The book that a showing's facts tell, None if it is not all shown, or is none."""
    if not is_enough(part, None, None, (RULES,)):
        return None
    told = {}
    for name, row in facts:
        if name == "rule":
            rule = rule_of(schema, row[1])
            if rule is None or row[0] in told:
                return None
            told[row[0]] = rule
    return told


def rule_of(schema, text):
    """The rule of a text, None for what is none's."""
    try:
        return read_rule(schema, text)
    except BadText:
        return None


def rows_shown(schema, book, part, facts, question, paper):
    """The ascending tuple of the rows that a paper shows to be the whole answer, None if it does not do so."""
    plan, asked, claimed, _ = paper
    if not is_plan_of(book, plan):
        return None
    relations = Relations()
    of_schema = [fact for fact in facts if relation_of(schema, fact[0]) is not None]
    for name, row in of_schema:
        relations.put(name, row)
    orders = orders_in(plan)
    asker = closed_asker(book, orders, relations, question, (asked, claimed))
    if asker is None:
        return None
    # Whatever was looked up lies in these stretches, so it was all there if they are all shown.
    stretches = tuple(asker.stretches(schema, orders, asked, question))
    if not is_enough(part, None, None, stretches):
        return None
    if not all([is_fine(schema, stretches, fact) for fact in of_schema]):
        return None
    return rows_in_order(relations.fitting(question[0], question[1]))


def is_fine(schema, stretches, fact):
    """Whether a fact is a row of its relation, or lies in none of the stretches."""
    if is_table_row(relation_of(schema, fact[0]), fact[1]):
        return True
    return not any([is_in(stretch, fact) for stretch in stretches])


def are_rows(thing):
    """Whether a thing is a tuple of rows: Python takes flags for equal to numbers, this does not."""
    return isinstance(thing, tuple) and all([is_free_row(row) for row in thing])


def witness(schema, p, question, one, other):
    """A clash that two answers have that are taken with one root, but tell unlike marks or rows; None for others."""
    check_schema(schema)
    check_prime(p)
    check_pattern(question)
    texts = [root_text_of(p, thing) for thing in (one, other)]
    if None in texts:
        return None
    root = mixed(p, texts[0])
    if not all([is_taken(schema, p, root, question, thing) for thing in (one, other)]) or one[:2] == other[:2]:
        return None
    return tuple(texts) if texts[0] != texts[1] else clash(p, one[2][3], other[2][3])


def root_text_of(p, thing):
    """The text that is mixed to the root number of an answer, None for what is none."""
    part = part_of(p, thing)
    return None if part is None else root_text(thing[0], part.number, part.many)
