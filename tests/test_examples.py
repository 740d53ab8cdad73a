"""The examples of the document."""

import unittest

from shownviews.books import bar
from shownviews.edits import both, lacking
from shownviews.lots import answer
from shownviews.meanings import meaning
from shownviews.mixing import fact_text
from shownviews.ruletexts import rule_text
from shownviews.states import State, next_edit, with_edit
from shownviews.texts import edit_text, state_text
from tests.helpers import FAR, NEAR, S, T


class Examples(unittest.TestCase):
    def test_e01(self):
        self.assertEqual(both(((1, 3),), ((1, 2), (4, 1))), ((1, 3), (4, 1)))
        self.assertEqual(lacking(((1, 1),), ((1, 3), (2, 2))), ((1, 2, 3), (2, 1, 2)))

    def test_e02(self):
        edit = next_edit(State(S), 7, ("bring", "link", ("a", "b")))
        self.assertEqual(edit, (7, 1, 1, (), ("bring", "link", ("a", "b"))))

    def test_e03(self):
        self.assertEqual(meaning(S, {"one": NEAR, "two": FAR}, T), {"near": (("a", "b"), ("a", "c"), ("b", "c"))})

    def test_e04(self):
        self.assertEqual(bar(S, {"odd": (("x", (1,)), (("not", "x", (1,)),))}, "x"), ("ring", ("x",)))

    def test_e05(self):
        self.assertEqual(rule_text(FAR), "near(?0, ?2) if near(?0, ?1), link(?1, ?2)")

    def test_e06(self):
        self.assertEqual(answer(S, {"one": NEAR, "two": FAR}, (), T, ("near", ("a", None))), (("a", "b"), ("a", "c")))

    def test_e07(self):
        self.assertEqual(fact_text(("stock", ("a~b", -3))), "stock('a~~b',-3)")

    def test_e08(self):
        self.assertEqual(edit_text((7, 1, 1, (), ("bring", "link", ("a", "b")))), "7 1 1 - bring link 'a','b'")

    def test_e09(self):
        state = with_edit(with_edit(State(S), (7, 1, 1, (), ("bring", "link", ("a", "b")))),
                          (7, 2, 2, ((7, 1),), ("add", "stock", ("x",), 3)))
        self.assertEqual(state_text(state), "7:2 2 ; sum stock 'x' 7 3 ; bag link 'a','b' 7:1")
