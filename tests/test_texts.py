"""Points 1.6 and 6.4: texts of edits and States."""

import unittest

from shownviews.edits import is_deed, is_edit, is_mark
from shownviews.errors import NoSchema, NoText
from shownviews.ruletexts import rule_text
from shownviews.states import State, joined, next_edit, with_edit
from shownviews.texts import edit_text, read_edit, read_state, state_text
from tests.helpers import (ANY, FAR, NEAR, S, chances, odd_things, random_edits, rule, state_from, told_by, unchanged,
                           v)
from tests.slowly import slow_worth_text

ODD_RULE = rule("x", ["it's ~ ;", v(3), -5], ("less", v(3), "~~''"), ("is", "link", (v(3), ANY)),
                ("sum", 3, "b", (1, ANY, ANY), 1))
WIDE = (("a", 0, ("word", "number")), ("b", 2, ("number", "word", "word")), ("c", "sum", ("number",)),
        ("d", "sum", ("word", "number", "number")), ("e", "bag", ("number",)), ("f", "bag", ("word", "word")))
WORDS = ["", " ", "a", "'", "~", "~'", "''", "a,b", " ; ", "'~'~", "7:1", "-", "a b", "=", "~~v", "rule", "x" * 20, ";",
         "not"]


def slow_mark(mark):
    return ",".join(f"{life}:{number}" for life, number in mark) or "-"


def slow_row(row):
    return ",".join(slow_worth_text(worth) for worth in row) or "-"


def slow_rule(one):
    return slow_worth_text(rule_text(one))


def slow_deed(deed):
    parts = list(deed[:2])
    if deed[0] == "rule":
        parts.append(slow_rule(deed[2]))
    elif deed[0] != "unrule":
        parts.append(slow_row(deed[2]))
    if deed[0] == "add":
        parts.append(str(deed[3]))
    return " ".join(parts)


def slow_edit(edit):
    return f"{edit[0]} {edit[1]} {edit[2]} {slow_mark(edit[3])} {slow_deed(edit[4])}"


def slow_state_text(state):
    parts = [f"{slow_mark(state.mark)} {state.height}"]
    for (name, key), (height, life, rest) in sorted(state.cells().items()):
        parts.append(f"cell {name} {slow_row(key)} {height} {life} " + ("-" if rest is None else "=" + slow_row(rest)))
    for (name, key, life), amount in sorted(state.sums().items()):
        parts.append(f"sum {name} {slow_row(key)} {life} {amount}")
    for (name, row), brings in sorted(state.bags().items()):
        parts.append(f"bag {name} {slow_row(row)} {slow_mark(brings)}")
    for title, (height, life, one) in sorted(state.rules().items(), key=lambda pair: pair[0]):
        parts.append(f"rule {title} {height} {life} " + ("-" if one is None else slow_rule(one)))
    return " ; ".join(parts)


def wide_deeds():
    told = []
    for at, word in enumerate(WORDS):
        other = WORDS[-1 - at]
        told += [("put", "a", (word, at)), ("put", "b", (-at, word, other)), ("take", "b", (at, word)),
                 ("add", "c", (), at + 1),
                 ("add", "d", (word, 10 ** 20 - 1), -at - 1), ("bring", "e", (at - 9,)), ("bring", "f", (word, other)),
                 ("drop", "f", (other, word)), ("rule", "abcdefgh"[:at % 8 + 1], (NEAR, FAR, ODD_RULE)[at % 3]),
                 ("unrule", "abcdefgh"[at % 8:])]
    return told + [("take", "a", ()), ("put", "a", ("~'", -(10 ** 20 - 1))), ("drop", "e", (3,)),
                   ("add", "c", (), -10 ** 19)]


def all_wrong(text, put):
    """All texts that are one sign off."""
    for at in range(len(text) + 1):
        yield text[:at] + text[at + 1:] if at < len(text) else text + "\n"
        for sign in put:
            yield text[:at] + sign + text[at:]
            if at < len(text):
                yield text[:at] + sign + text[at + 1:]


class Edits(unittest.TestCase):
    def test_examples(self):
        for text, edit in (("7 1 1 - bring link 'a','b'", (7, 1, 1, (), ("bring", "link", ("a", "b")))),
                           ("8 3 9 7:2,8:2 put name 'k','~~v'", (8, 3, 9, ((7, 2), (8, 2)),
                                                                 ("put", "name", ("k", "~v")))),
                           ("7 4 5 7:3 rule r 'near(?0) if link(?0, _)'", (7, 4, 5, ((7, 3),), (
                               "rule", "r", rule("near", [v(0)], ("is", "link", (v(0), ANY)))))),
                           ("7 1 1 - take name '~''", (7, 1, 1, (), ("take", "name", ("'",)))),
                           ("7 1 1 - add stock 'x' -3", (7, 1, 1, (), ("add", "stock", ("x",), -3))),
                           ("7 1 1 - unrule link", (7, 1, 1, (), ("unrule", "link"))),
                           ("999 1 1 - drop link '',' '", (999, 1, 1, (), ("drop", "link", ("", " "))))):
            self.assertEqual(edit_text(edit), text)
            self.assertEqual(read_edit(S, text), edit)

    def test_all_deeds_of_a_wide_schema(self):
        for number, deed in enumerate(wide_deeds(), 1):
            self.assertTrue(is_deed(WIDE, deed), deed)
            seen = ((3, 1),) if number == 1 else ((3, 10 ** 39), (700, number - 1))
            edit = (700, number, 10 ** 39 + number, seen, deed)
            text = edit_text(edit)
            self.assertEqual(text, slow_edit(edit))
            self.assertEqual(read_edit(WIDE, text), edit)
        self.assertEqual(edit_text((1, 1, 1, (), ("take", "a", ()))), "1 1 1 - take a -")
        self.assertEqual(edit_text((1, 1, 1, (), ("add", "c", (), -4))), "1 1 1 - add c - -4")
        self.assertEqual(edit_text((1, 1, 1, (), ("put", "a", ("-", -4)))), "1 1 1 - put a '-',-4")

    def test_signs_turned_left_out_and_put_in(self):
        """What is read has just the text that is read."""
        seen = {"read": 0, "not": 0}
        deeds = [wide_deeds()[at] for at in range(0, 190, 11)] + wide_deeds()[-4:]
        for at, deed in enumerate(deeds):
            text = edit_text((12, 2, 10, ((3, 11), (12, 1)), deed) if at % 2 else (12, 1, 10, (), deed))
            for wrong in all_wrong(text, "0-' ~,:a"):
                seen[self.read_or_not(wrong)] += 1
        self.assertGreater(min(seen.values()), 300, seen)

    def read_or_not(self, text):
        try:
            edit = read_edit(WIDE, text)
        except NoText as error:
            self.assertIs(type(error), NoText)
            return "not"
        self.assertTrue(is_edit(WIDE, edit))
        self.assertEqual(slow_edit(edit), text)
        return "read"

    def no_edit(self, *texts, schema=S):
        for text in texts:
            with self.assertRaises(NoText):
                read_edit(schema, text)

    def test_no_texts(self):
        good = "7 1 1 - bring link 'a','b'"
        read_edit(S, good)
        self.no_edit("", " ", good + " ", " " + good, good + "\n", good.replace(" ", "  ", 1), "07" + good[1:],
                     "0" + good[1:],
                     "1000" + good[1:], "7 0 1 - bring link 'a','b'", "7 1 0 - bring link 'a','b'",
                     "7 1 01 - bring link 'a','b'",
                     "7 2 1 - bring link 'a','b'", "7 1 1 7:1 bring link 'a','b'", "7 2 3 7:2 bring link 'a','b'",
                     "7 2 3 8:1,7:1 bring link 'a','b'", "7 2 3 7:1,7:1 bring link 'a','b'",
                     "7 2 3 7:01 bring link 'a','b'",
                     "7 2 3 -,7:1 bring link 'a','b'", "7 2 3 7:1, bring link 'a','b'",
                     "7 2 3 7:1,0:1 bring link 'a','b'",
                     "7 2 3 7:1,8:0 bring link 'a','b'", "7 2 3 7:1,1000:1 bring link 'a','b'",
                     "7 1 1 - bring link 'a'", "7 1 1 - bring link 'a','b','c'", "7 1 1 - bring link 'a',1",
                     "7 1 1 - bring link 1,2",
                     "7 1 1 - bring link 'a', 'b'", "7 1 1 - bring link 'a','b", "7 1 1 - bring link 'a','b\n'",
                     "7 1 1 - bring link 'a','" + "b" * 21 + "'", "7 1 1 - bring link 'a','~b'",
                     "7 1 1 - bring link 'a',''b'",
                     "7 1 1 - bring name 'a','b'", "7 1 1 - bring none 'a','b'", "7 1 1 - put link 'a','b'",
                     "7 1 1 - take link 'a'",
                     "7 1 1 - take name 'a','b'", "7 1 1 - take name -", "7 1 1 - put name 'a'",
                     "7 1 1 - add stock 'a' 0",
                     "7 1 1 - add stock 'a' -0", "7 1 1 - add stock 'a' 01", "7 1 1 - add stock 'a' +1",
                     "7 1 1 - add stock 'a' " + "9" * 21,
                     "7 1 1 - add stock 'a'", "7 1 1 - add stock 'a',1", "7 1 1 - add stock 'a' 1 ",
                     "7 1 1 - add stock 'a' " + "9" * 5000,
                     "7 1 1 - add name 'a' 1", "7 1 1 - rule r near(?0) if link(?0, _)",
                     "7 1 1 - rule r 'near(?0) if link(?0)'",
                     "7 1 1 - rule r 'link(?0, ?1) if link(?0, ?1)'", "7 1 1 - rule r ''",
                     "7 1 1 - rule R 'near(1) if 1 = 1'",
                     "7 1 1 - rule abcdefghi 'near(1) if 1 = 1'", "7 1 1 - rule r 'near(01) if 1 = 1'",
                     "7 1 1 - unrule",
                     "7 1 1 - unrule ", "7 1 1 - unrule a b", "7 1 1 - unrule abcdefghi", "7 1 1 - swap link 'a','b'",
                     "7 1 1 -",
                     "7 1 1", "9" * 20000, "7 " + "9" * 19000 + " 1 - unrule a", "-7 1 1 - unrule a",
                     "7 1 1 - - unrule a")
        self.assertEqual(read_edit(S, "7 1 1 - rule r 'near(1) if 1 = 1'")[4][0], "rule")

    def test_just_the_schema_s_own(self):
        """An edit of another schema is no edit here."""
        for schema, text in ((S, "1 1 1 - add c - 4"), (WIDE, "7 1 1 - bring link 'a','b'"),
                             (WIDE, "1 1 1 - rule r 'a(1) if 1 = 1'"),
                             (S, "1 1 1 - rule r 'stock('a~', 1) if 1 = 1'")):
            self.no_edit(text, schema=schema)
        self.assertEqual(read_edit(S, "1 1 1 - rule r 'a(1) if 1 = 1'")[4][2][0][0], "a")

    def test_things_of_all_kinds(self):
        for thing in odd_things():
            self.assertRaises(NoText, read_edit, S, thing)
            self.assertRaises(NoText, read_state, S, thing)
            if thing != S:
                self.assertRaises(NoSchema, read_edit, thing, "7 1 1 - bring link 'a','b'")
                self.assertRaises(NoSchema, read_state, thing, "- 0")
        self.assertRaises(NoSchema, read_edit, None, None)
        self.assertRaises(NoSchema, read_state, None, None)


class States(unittest.TestCase):
    def wide_state(self, lives=(3, 700), step=1):
        state = State(WIDE)
        for at, deed in enumerate(wide_deeds()[::step]):
            state = with_edit(state, next_edit(state, lives[at % len(lives)], deed))
        return state

    def compare(self, state):
        text = state_text(state)
        self.assertEqual(text, slow_state_text(state))
        self.assertNotIn("\n", text)
        other = read_state(state.schema, text)
        self.assertIs(type(other), State)
        self.assertEqual(other, state)
        self.assertEqual((other.schema, told_by(other)), (state.schema, told_by(state)))
        self.assertEqual(state_text(other), text)

    def test_examples(self):
        text = "7:2,8:3 9 ; cell name 'k' 9 8 ='~~v' ; cell name 'm' 3 8 - ; sum stock 'x' 7 3 ; sum stock 'y' 8 -3 ; bag link 'a','b' 7:1"
        state = read_state(S, text)
        self.assertEqual(told_by(state),
                         (((7, 2), (8, 3)), 9, {("name", ("k",)): (9, 8, ("~v",)), ("name", ("m",)): (3, 8, None)},
                                          {("stock", ("x",), 7): 3, ("stock", ("y",), 8): -3},
                          {("link", ("a", "b")): ((7, 1),)}, {}))
        self.assertEqual(state_text(state), text)
        schema = (("all", 0, ("word", "word")), ("total", "sum", ("number",)))
        text = "7:9 9 ; cell all - 9 7 ='a','b' ; sum total - 7 -3 ; rule a 1 7 - ; rule b 2 7 'x(1) if all(_, ?0), ?0 != ~'~''"
        self.assertEqual(state_text(read_state(schema, text)), text)

    def test_no_edits(self):
        for schema in (S, WIDE):
            self.assertEqual(state_text(State(schema)), "- 0")
            self.compare(State(schema))

    def test_all_kinds_of_relations(self):
        for lives in ((3, 700), (1,), (5, 4, 999)):
            for step in (1, 2, 3):
                self.compare(self.wide_state(lives, step))

    def test_by_chance(self):
        for chance in chances(60):
            state = state_from(random_edits(chance, [1, 2, 30], chance.randrange(40)))
            self.compare(state)
            # A State goes on from its text as from itself.
            more = next_edit(state, 5, ("drop", "link", ("a", "b")))
            self.assertEqual(with_edit(read_state(S, state_text(state)), more), with_edit(state, more))
            self.assertEqual(joined(read_state(S, state_text(state)), State(S)), state)

    def test_several_brings(self):
        state = State(S)
        for life, number, height, seen in ((9, 1, 1, ()), (10, 1, 1, ()), (9, 2, 2, ((9, 1),)), (100, 1, 1, ())):
            state = with_edit(state, (life, number, height, seen, ("bring", "link", ("a", "b"))))
        self.assertEqual(state_text(state), "9:2,10:1,100:1 2 ; bag link 'a','b' 9:1,9:2,10:1,100:1")
        self.compare(state)

    def test_ascending_by_keys_as_python_orders_them(self):
        state = State(WIDE)
        for number in (10, 9, -1, 100):
            state = with_edit(state, next_edit(state, 1, ("bring", "e", (number,))))
            state = with_edit(state, next_edit(state, 1, ("add", "d", (str(number), number), 1)))
        parts = state_text(state).split(" ; ")[1:]
        self.assertEqual([part.split()[2] for part in parts if part[:3] == "bag"], ["-1", "9", "10", "100"])
        self.assertEqual([part.split()[2] for part in parts if part[:3] == "sum"],
                         ["'-1',-1", "'10',10", "'100',100", "'9',9"])
        state = State(S)
        for life in (100, 20, 3):
            state = with_edit(state, next_edit(state, life, ("add", "stock", ("x",), life)))
        self.assertEqual(state_text(state),
                         "3:1,20:1,100:1 3 ; sum stock 'x' 3 3 ; sum stock 'x' 20 20 ; sum stock 'x' 100 100")

    GOOD = ("7:2,8:3 9 ; cell name 'k' 9 8 ='~~v' ; cell name 'm' 3 8 - ; sum stock 'x' 7 3 ; sum stock 'x' 8 0 ; "
            "bag link 'a','b' 7:1,8:3 ; rule a 2 7 - ; rule b 1 8 'x(?0) if link(?0, _)'")

    def no_state(self, *texts, schema=S):
        for text in texts:
            with self.assertRaises(NoText):
                read_state(schema, text)

    def test_parts_exchanged_twice_and_left_out(self):
        parts = self.GOOD.split(" ; ")
        self.assertEqual(state_text(read_state(S, self.GOOD)), self.GOOD)
        for at in range(1, len(parts)):
            self.no_state(" ; ".join([*parts[:at], parts[at], *parts[at:]]))
            left = " ; ".join([*parts[:at], *parts[at + 1:]])
            self.assertEqual(state_text(read_state(S, left)), left)
            for other in range(at + 1, len(parts)):
                turned = list(parts)
                turned[at], turned[other] = turned[other], turned[at]
                self.no_state(" ; ".join(turned))
        self.no_state(" ; ".join(parts[1:]))

    def test_lives_numbers_and_heights_that_do_not_stand(self):
        for part in ("cell name 'k' 10 8 ='v'", "cell name 'k' 0 8 ='v'", "cell name 'k' 9 9 ='v'",
                     "cell name 'k' 9 0 -", "cell name 'k' 10 7 -",
                     "sum stock 'x' 9 3", "sum stock 'x' 0 3", "sum stock 'x' 1 1", "bag link 'a','b' 7:3",
                     "bag link 'a','b' 8:4",
                     "bag link 'a','b' 9:1", "bag link 'a','b' 7:0", "bag link 'a','b' -", "bag link 'a','b' 8:1,7:1",
                     "bag link 'a','b' 7:1,7:1", "bag link 'a','b' 7:2,7:1", "bag link 'a','b' 7:1,",
                     "bag link 'a','b' ", "bag link 'a','b'",
                     "rule a 10 7 -", "rule a 0 7 -", "rule a 1 6 -", "rule a 1 7 'x(?0) if link(?0)'",
                     "rule a 1 7 x(1) if 1 = 1",
                     "rule A 1 7 -", "rule abcdefghi 1 7 -", "rule a 1 7", "rule a 1 7 ", "rule a 1 7 =",
                     "rule a 01 7 -", "rule a 1 07 -",
                     "cell name 'k' 09 8 -", "cell name 'k' 9 8 =", "cell name 'k' 9 8 =-", "cell name 'k' 9 8 'v'",
                     "cell name - 9 8 -",
                     "cell name 'k','v' 9 8 -", "cell name 'k' 9 8 ='v','w'", "cell name 1 9 8 -",
                     "cell link 'k' 9 8 -", "cell stock 'x' 9 8 -",
                     "cell none 'x' 9 8 -", "cell name 'k' 9 8 ='" + "v" * 21 + "'",
                     "cell name '" + "v" * 21 + "' 9 8 -", "sum name 'k' 7 1",
                     "sum stock 'x' 7 01", "sum stock 'x' 7 -0", "sum stock 'x' 7 +1", "sum stock 'x' 7",
                     "sum stock 'x',1 7 3", "sum link 'a' 7 3",
                     "sum stock - 7 3", "sum stock 'x' 7 3 3", "bag name 'a','b' 7:1", "bag link 'a' 7:1",
                     "bag link 'a','b','c' 7:1", "bag link 'a',1 7:1",
                     "bag stock 'a',1 7:1", "put name 'k','v'", "", " ", "-", "cell", "rule",
                     "sum stock 'x' 7 " + "9" * 5000,
                     "bag link 'a','b\n' 7:1", "sum rule 'x' 7 3", "cells name 'k' 9 8 -"):
            self.no_state(f"7:2,8:3 9 ; {part}")
        for part in ("cell name 'k' 9 8 ='v'", "cell name 'k' 1 7 -", "sum stock 'x' 7 0",
                     "sum stock 'x' 7 " + "9" * 4000, "bag link 'a','b' 7:1,7:2,8:3",
                     "rule a 9 8 -", "rule link 1 7 -"):
            text = f"7:2,8:3 9 ; {part}"
            self.assertEqual(state_text(read_state(S, text)), text)

    def test_marks_and_heights(self):
        self.no_state("- 1", "7:1 0", "0", "-", "- ", "-0", "- 00", "7:1 01", "7:1", "7:1 ", "7:0 1", "0:1 1",
                      "1000:1 1", "8:1,7:1 1", "7:1,7:2 1",
                      "7:1, 8:1 1", "7:1,8:1,1", "", " - 0", "- 0 ", "- 0 ;", "- 0 ; ", "- 0 ;  ", "- 0 ; rule a 1 1 -",
                      "- 0 ; sum stock 'x' 1 1",
                      "- 0\n", "7:1 -1", "7:+1 1", "7:" + "9" * 5000 + " 1", "7:1 " + "9" * 5000, "a:1 1", "7 1")
        for text in ("7:1 1", "1:1,999:" + "9" * 39 + " " + "9" * 39, "7:3 1"):
            self.assertEqual(told_by(read_state(S, text))[2:], ({}, {}, {}, {}))

    def test_signs_turned_left_out_and_put_in(self):
        seen = {"read": 0, "not": 0}
        for text, schema in ((self.GOOD, S), (state_text(self.wide_state(step=9)), WIDE), ("- 0", S)):
            for wrong in all_wrong(text, "0-' ;~,:1"):
                try:
                    state = read_state(schema, wrong)
                except NoText as error:
                    self.assertIs(type(error), NoText)
                    seen["not"] += 1
                else:
                    self.assertEqual(slow_state_text(state), wrong)
                    self.well_kept(schema, state)
                    seen["read"] += 1
        self.assertGreater(min(seen.values()), 200, seen)

    def well_kept(self, schema, state):
        numbers = dict(state.mark)
        kinds = {name: kind for name, kind, _ in schema}
        self.assertTrue(is_mark(state.mark))
        for (name, key), (height, life, rest) in state.cells().items():
            self.assertTrue(1 <= height <= state.height and life in numbers)
            self.assertEqual(len(key), kinds[name])
            if rest is not None:
                self.assertTrue(is_deed(schema, ("put", name, key + rest)))
        for (name, key, life), amount in state.sums().items():
            self.assertTrue(life in numbers and type(amount) is int)
            self.assertTrue(is_deed(schema, ("add", name, key, 1)))
        for (name, row), brings in state.bags().items():
            self.assertTrue(is_deed(schema, ("bring", name, row)))
            self.assertTrue(brings and all(1 <= number <= numbers[life] for life, number in brings))
        for title, (height, life, one) in state.rules().items():
            self.assertTrue(1 <= height <= state.height and life in numbers)
            self.assertTrue(is_deed(schema, ("unrule", title) if one is None else ("rule", title, one)))

    def test_just_the_schema_s_own(self):
        self.no_state(self.GOOD, schema=WIDE)
        self.no_state(state_text(self.wide_state()), schema=S)

    def test_equal_calls(self):
        state = self.wide_state(step=7)
        text = state_text(state)
        other = read_state(WIDE, text)
        for told in (other.cells(), other.sums(), other.bags(), other.rules()):
            told.clear()
        self.assertEqual(unchanged(self, read_state, WIDE, text), state)
        self.assertEqual(state_text(state), text)
