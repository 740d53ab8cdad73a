"""Changes of facts, led on to the rows that rules mean, layer by layer, by what stands round them alone."""

from shownviews.errors import NoFacts
from shownviews.meanings import groups_of
from shownviews.schemas import is_table_row, relation_of
from shownviews.touching import ANY_WORD, POSITIVE, STRONG, facts_round, touches_of
from shownviews.worths import is_tuple_of


def check_change(schema, relations, gone, come):
    """Checks that the facts gone are there and those come are not, each once; an error leaves no look behind."""
    sought = relations.sought
    if not is_change(schema, relations, gone, come):
        relations.sought = sought
        raise NoFacts()


def is_change(schema, relations, gone, come):
    if not are_facts(schema, gone) or not are_facts(schema, come):
        return False
    there = [relations.has(name, row) for name, row in gone]
    return all(there) and not any([relations.has(name, row) for name, row in come])


def are_facts(schema, thing):
    """Whether a thing is a list or tuple of facts of the schema, each once."""
    if not isinstance(thing, (list, tuple)) or not all([is_fact_of(schema, part) for part in thing]):
        return False
    return len(set(thing)) == len(thing)


def is_fact_of(schema, thing):
    if not is_tuple_of(thing, 2, 2):
        return False
    relation = relation_of(schema, thing[0])
    return relation is not None and is_table_row(relation, thing[1])


class Layer:
    """The rules for the names of one layer, by what facts touch in them."""

    def __init__(self, rules):
        self.asking, self.heads = touches_of(rules)

    def prepare(self, relations):
        for touches in list(self.asking.values()) + list(self.heads.values()):
            for touch in touches:
                touch.prepare(relations)


def layers_for(book, names, relations):
    """The Layers of some derived names without a bar, the lowest first, for which the relations are made ready."""
    layers = [Layer(rules) for _, rules in groups_of(book, names)]
    for layer in layers:
        layer.prepare(relations)
    return layers


class Side:
    """The rows ahead of a change, or behind it: all of the relations but hidden ones."""

    def __init__(self, relations, hidden):
        self._relations = relations
        self._hidden = hidden

    def fitting(self, name, terms):
        return [row for row in self._relations.fitting(name, terms) if (name, row) not in self._hidden]


class Change:
    """A change of facts over relations. Until its end these have all rows that are there ahead or behind, so that both
    can be asked: those gone are hidden behind the change, those come ahead of it."""

    def __init__(self, relations, gone, come):
        self.gone = {fact: True for fact in gone}
        self.come = {fact: True for fact in come}
        self._relations = relations
        self._ahead = Side(relations, self.come)
        self._behind = Side(relations, self.gone)
        for name, row in come:
            relations.put(name, row)

    def lead(self, layer):
        """Leads the change of all lower layers on to the names of a layer.

        Each row that an instance lost is taken for gone at first, as rows in a ring might else hold up one another;
        those that stand on others come back.
        """
        gone = list(self.gone)
        come = list(self.come)
        out = self._facts_out(layer, gone, come)
        for fact in out:
            self.gone[fact] = True
        back = [fact for fact in out if self._is_given(layer, fact)]
        self._put_in(layer, back + round_all(self._behind, layer, come, gone))

    def _facts_out(self, layer, gone, come):
        """The rows of the instances ahead of the change that may be none behind it."""
        told = {}
        waiting = round_all(self._ahead, layer, gone, come)
        while waiting:
            fact = waiting.pop()
            if fact not in told:
                told[fact] = True
                waiting.extend(facts_round(self._ahead, layer.asking, fact, POSITIVE))
        return list(told)

    def _is_given(self, layer, fact):
        """Whether an instance behind the change, as far as it is known, gives a row."""
        touches = layer.heads.get(fact[0], [])
        return any([touch.rows_round(self._behind, fact[1]) for touch in touches])

    def _put_in(self, layer, waiting):
        """Puts in rows, or back, and all that they lead to."""
        while waiting:
            fact = waiting.pop()
            if fact in self.gone:
                del self.gone[fact]
            elif self._relations.has(fact[0], fact[1]):
                continue
            else:
                self._relations.put(fact[0], fact[1])
                self.come[fact] = True
            waiting.extend(facts_round(self._behind, layer.asking, fact, POSITIVE))

    def end(self):
        """Takes out what is gone."""
        for name, row in self.gone:
            self._relations.take(name, row)


def round_all(rows, layer, there, missing):
    """The facts of the instances over some rows that hang on facts that are just there, or just missing there."""
    told = []
    for fact in there:
        told.extend(facts_round(rows, layer.asking, fact, ANY_WORD))
    for fact in missing:
        told.extend(facts_round(rows, layer.asking, fact, STRONG))
    return told
