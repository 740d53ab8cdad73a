"""Asking by patterns: which patterns, stretches and fillings going through the rules of a book comes to."""

from shownviews.books import titles_by_head
from shownviews.going import first_filling, head_row, patterns_at, stages
from shownviews.plans import orders_of, plain_order_of
from shownviews.schemas import relation_of
from shownviews.stretches import stretch_of
from shownviews.worths import known_places


class Asker:
    """Goes through the rules of a book for patterns, over rows that do not change; keeps what it came to.

    Orders are dicts from pairs (rule's name, lot) to orders; the plain one is meant where they have none.
    """

    def __init__(self, book, relations):
        self._book = book
        self._titles = titles_by_head(book)
        self._relations = relations
        self._came = {}
        self._plain = {}
        self._choices = {}

    def is_derived(self, name):
        return name in self._titles

    def titles_for(self, pattern):
        """The names of the rules for a pattern's name whose heads have as many places."""
        name, terms = pattern
        return [title for title in self._titles.get(name, []) if len(self._book[title][0][1]) == len(terms)]

    def row_of(self, title, filling):
        """The row to which a rule's head comes by a whole filling."""
        return head_row(self._book[title], filling)

    def all_through(self, orders, pattern):
        """The triples (rule's name, patterns come to, fillings that come through) of all rules for a pattern."""
        lot = known_places(pattern[1])
        told = []
        for title in self.titles_for(pattern):
            order = orders.get((title, lot), self._plain_order(title, lot))
            told.append((title, *self._through(title, order, pattern)))
        return told

    def _plain_order(self, title, lot):
        if (title, lot) not in self._plain:
            self._plain[(title, lot)] = plain_order_of(self._book[title], lot)
        return self._plain[(title, lot)]

    def _through(self, title, order, pattern):
        """The pair of the patterns come to and of the fillings that come through, both lists."""
        key = (title, order, pattern)
        if key not in self._came:
            rule = self._book[title]
            told = stages(self._relations, rule, order, first_filling(rule, pattern[1]))
            self._came[key] = (list(patterns_at(rule, order, told)), told[-1])
        return self._came[key]

    def least_asked(self, orders, question):
        """The patterns that are asked for a question, and those asked for these, as the keys of a dict, each behind one
        that comes to it."""
        asked = {question: True} if self.is_derived(question[0]) else {}
        waiting = list(asked)
        while waiting:
            came = []
            for pattern in waiting:
                for _, found, _ in self.all_through(orders, pattern):
                    came.extend([more for more in found if self.is_derived(more[0])])
            waiting = list({more: True for more in came if more not in asked})
            for pattern in waiting:
                asked[pattern] = True
        return asked

    def stretches(self, schema, orders, asked, question):
        """The stretches come to for the patterns asked, and that of a question of the schema, as the keys of a dict."""
        found = [more for pattern in asked for _, came, _ in self.all_through(orders, pattern) for more in came]
        return {stretch_of(more): True for more in [question, *found] if relation_of(schema, more[0]) is not None}

    def choices(self, orders, asked, most):
        """The triples (rule's name, lot, order) of all orders, but no more than one more than most, where the first of
        the patterns asked leaves it open by which to go; none if it is told everywhere, or there is just one."""
        for pattern in asked:
            lot = known_places(pattern[1])
            for title in self.titles_for(pattern):
                told = self._orders(title, lot, most)
                if (title, lot) not in orders and len(told) > 1:
                    return [(title, lot, order) for order in told]
        return []

    def _orders(self, title, lot, most):
        if (title, lot) not in self._choices:
            self._choices[(title, lot)] = orders_of(self._book[title], lot, most)
        return self._choices[(title, lot)]
