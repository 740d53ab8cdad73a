"""Points 1.2 and 1.3: deeds, marks, edits."""

import itertools
import unittest

from shownviews.edits import both, holds, is_deed, is_edit, is_mark, lacking
from shownviews.errors import NoMark
from tests.helpers import FAR, NEAR, S, odd_things, parts_put_otherwise, saw, unchanged

DEEDS = [("put", "name", ("k", "v")), ("take", "name", ("k",)), ("add", "stock", ("k",), 3),
         ("bring", "link", ("a", "b")), ("drop", "link", ("a", "b")), ("rule", "one", NEAR), ("unrule", "one")]
MARKS = [(), ((1, 1),), ((1, 3),), ((2, 2),), ((1, 2), (2, 1)), ((1, 1), (2, 2), (999, 5)), ((2, 1), (999, 6)),
         ((1, 10 ** 39),)]
NO_MARKS = [((0, 1),), ((1000, 1),), ((-1, 1),), ((2, 1), (1, 1)), ((1, 1), (1, 2)), ((1, 2), (1, 2)), ((1, 0),),
            ((1, -1),), ((True, 1),), ((1, True),), ((1, False),), [(1, 1)], ([1, 1],), ((1, 1, 1),), ((1,),), ((),),
            (1, 1), ("11",), None, 1, "", [], {1: 1}, {}, ((1, None),), ((None, 1),), (("1", 1),), ((1, "1"),),
            ((1, 1), (3, 1), (2, 1))]


class Deeds(unittest.TestCase):
    def test_the_seven_kinds(self):
        for deed in DEEDS:
            self.assertIs(is_deed(S, deed), True)

    def test_a_part_more_or_less(self):
        for deed in DEEDS:
            self.assertIs(is_deed(S, deed[:-1]), False)
            self.assertIs(is_deed(S, (*deed, 1)), False)
            self.assertIs(is_deed(S, (*deed, ("a", "b"))), False)
            self.assertIs(is_deed(S, list(deed)), False)
            self.assertIs(is_deed(S, (deed,)), False)

    def test_names_of_relations_of_another_kind(self):
        for deed in DEEDS[:5]:
            for name in ("link", "name", "stock", "none", "rule", "", None, ["link"], 1):
                self.assertIs(is_deed(S, (deed[0], name, *deed[2:])), name == deed[1])

    def test_rows_and_keys(self):
        for deed in DEEDS[:5]:
            row = deed[2]
            for wrong in ((), row[1:], (*row, "a"), list(row), (1, *row[1:]), (*row[:-1], True), ("a" * 21, *row[1:]),
                          None, "ab", ("\n", *row[1:])):
                self.assertIs(is_deed(S, (deed[0], deed[1], wrong, *deed[3:])), False)

    def test_amounts(self):
        for amount in (1, -1, 10 ** 20 - 1, 1 - 10 ** 20):
            self.assertIs(is_deed(S, ("add", "stock", ("k",), amount)), True)
        for amount in (0, 10 ** 20, -10 ** 20, True, False, None, "1", (1,)):
            self.assertIs(is_deed(S, ("add", "stock", ("k",), amount)), False)

    def test_keys_of_no_places(self):
        schema = (("all", "sum", ("number",)), ("cell", 0, ("word",)))
        self.assertIs(is_deed(schema, ("add", "all", (), 1)), True)
        self.assertIs(is_deed(schema, ("take", "cell", ())), True)
        self.assertIs(is_deed(schema, ("put", "cell", ("a",))), True)
        self.assertIs(is_deed(schema, ("put", "cell", ())), False)
        self.assertIs(is_deed(schema, ("add", "all", (1,), 1)), False)

    def test_titles(self):
        for title in ("rule", "link", "near", "a", "abcdefgh"):
            self.assertIs(is_deed(S, ("rule", title, FAR)), True)
            self.assertIs(is_deed(S, ("unrule", title)), True)
        for title in ("", "abcdefghi", "A", "a1", None, 1, ["a"], ("a",), b"a"):
            self.assertIs(is_deed(S, ("rule", title, FAR)), False)
            self.assertIs(is_deed(S, ("unrule", title)), False)

    def test_rules(self):
        for one in (None, "near", (), NEAR[0], (NEAR[0], ()), (("link", (1,)), NEAR[1]), list(NEAR)):
            self.assertIs(is_deed(S, ("rule", "one", one)), False)

    def test_words(self):
        for deed in DEEDS:
            for word in ("", "puts", None, 1, ["put"], b"put", "Rule", "is"):
                self.assertIs(is_deed(S, (word, *deed[1:])), False)

    def test_things_of_all_kinds(self):
        for thing in odd_things():
            told = is_deed(S, thing)
            self.assertIs(told, isinstance(thing, tuple) and thing[:1] == ("unrule",) and len(thing) == 2
                          and thing[1] in ("a", "link", "rule"))
        for deed in DEEDS:
            for thing in parts_put_otherwise(deed, [None, [], {}, True, ("a",), b""]):
                self.assertIn(is_deed(S, thing), (True, False))


class Marks(unittest.TestCase):
    def test_what_is_one(self):
        for mark in MARKS:
            self.assertIs(is_mark(mark), True)
        self.assertIs(is_mark(tuple((life, life) for life in range(1, 1000))), True)

    def test_what_is_none(self):
        for thing in NO_MARKS:
            self.assertIs(is_mark(thing), False)
        for thing in odd_things():
            self.assertIs(is_mark(thing), thing == ())

    def test_holds_both_lacking_by_the_edits_they_stand_for(self):
        lives, numbers = (1, 2, 999), range(0, 4)
        marks = [tuple((life, last) for life, last in zip(lives, lasts) if last)
                 for lasts in itertools.product(numbers, repeat=3)]
        edits = [(life, number) for life in lives for number in numbers if number]
        for mark in marks:
            for other in marks:
                lacks = [edit for edit in edits if saw(other, *edit) and not saw(mark, *edit)]
                self.assertIs(holds(mark, other), not lacks)
                told = [(life, n) for life, first, last in lacking(mark, other) for n in range(first, last + 1)]
                self.assertEqual(told, lacks)
                of_both = [edit for edit in edits if saw(mark, *edit) or saw(other, *edit)]
                self.assertEqual([edit for edit in edits if saw(both(mark, other), *edit)], of_both)

    def test_what_follows_from_the_words(self):
        for mark, other, third in itertools.product(MARKS, repeat=3):
            union = both(mark, other)
            self.assertIs(is_mark(union), True)
            self.assertTrue(holds(union, mark) and holds(union, other))
            self.assertEqual(holds(third, mark) and holds(third, other), holds(third, union))
            self.assertEqual(lacking(mark, other) == (), holds(mark, other))
            self.assertEqual(union, both(other, mark))

    def test_one_triple_for_a_life(self):
        self.assertEqual(lacking((), ((1, 3), (4, 1))), ((1, 1, 3), (4, 1, 1)))
        self.assertEqual(lacking(((4, 7),), ((1, 3), (4, 1), (5, 2))), ((1, 1, 3), (5, 1, 2)))
        self.assertEqual(lacking(((1, 2),), ((1, 10 ** 39),)), ((1, 3, 10 ** 39),))

    def test_no_mark(self):
        for call in (holds, both, lacking):
            for thing in [*NO_MARKS, *odd_things()[:80]]:
                if not is_mark(thing):
                    self.assertRaises(NoMark, call, thing, ((1, 1),))
                    self.assertRaises(NoMark, call, ((1, 1),), thing)

    def test_nothing_is_changed(self):
        for call in (holds, both, lacking):
            unchanged(self, call, ((1, 3), (2, 1)), ((2, 2),))


class Edits(unittest.TestCase):
    def test_the_first_of_a_life(self):
        self.assertIs(is_edit(S, (7, 1, 1, (), DEEDS[0])), True)
        self.assertIs(is_edit(S, (7, 1, 5, ((6, 4), (8, 1)), DEEDS[0])), True)
        self.assertIs(is_edit(S, (7, 1, 5, ((7, 1),), DEEDS[0])), False)
        self.assertIs(is_edit(S, (7, 1, 5, ((6, 4), (7, 2)), DEEDS[0])), False)

    def test_later_ones_saw_the_one_ahead(self):
        self.assertIs(is_edit(S, (7, 3, 9, ((7, 2), (8, 2)), DEEDS[0])), True)
        for seen in ((), ((8, 2),), ((7, 1),), ((7, 3),), ((7, 4), (8, 2)), ((6, 2), (8, 2)), [(7, 2)], None,
                     ((7, 2, 1),)):
            self.assertIs(is_edit(S, (7, 3, 9, seen, DEEDS[0])), False)

    def test_lives_numbers_heights(self):
        for life in (1, 2, 999):
            self.assertIs(is_edit(S, (life, 1, 1, (), DEEDS[0])), True)
        for life in (0, 1000, -1, True, None, "1", (1,), [1]):
            self.assertIs(is_edit(S, (life, 1, 1, (), DEEDS[0])), False)
        for wrong in (0, -1, True, False, None, "1", [1]):
            self.assertIs(is_edit(S, (7, wrong, 1, (), DEEDS[0])), False)
            self.assertIs(is_edit(S, (7, 1, wrong, (), DEEDS[0])), False)
        self.assertIs(is_edit(S, (7, 10 ** 39, 1, ((7, 10 ** 39 - 1),), DEEDS[0])), True)
        self.assertIs(is_edit(S, (7, 1, 10 ** 39, (), DEEDS[0])), True)

    def test_parts(self):
        edit = (7, 2, 2, ((7, 1),), DEEDS[0])
        self.assertIs(is_edit(S, edit), True)
        self.assertIs(is_edit(S, edit[:-1]), False)
        self.assertIs(is_edit(S, (*edit, 1)), False)
        self.assertIs(is_edit(S, list(edit)), False)
        for deed in (None, (), list(DEEDS[0]), ("put", "link", ("a", "b")), (1, 2, 3)):
            self.assertIs(is_edit(S, (*edit[:-1], deed)), False)
        for deed in DEEDS:
            self.assertIs(is_edit(S, (*edit[:-1], deed)), True)

    def test_things_of_all_kinds(self):
        for thing in odd_things():
            self.assertIs(is_edit(S, thing), False)
            self.assertIs(is_edit(S, (7, 2, 2, thing, DEEDS[0])), False)
        for thing in parts_put_otherwise((7, 2, 2, ((7, 1),), DEEDS[3]), [None, [], {}, True, "a\n", b""]):
            self.assertIs(is_edit(S, thing), False)
        self.assertIs(unchanged(self, is_edit, S, [7, 1, 1, [], [1]]), False)
