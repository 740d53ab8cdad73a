"""Point 9.1: things, packed and unpacked."""

import itertools
import re
import unittest

from shownviews.errors import BadText, NoThing
from shownviews.things import packed, unpacked
from tests.helpers import NEAR, S, State, chances, deep, odd_things, unchanged
from tests.slowly import SIGNS

ATOM = re.compile(r"-?[1-9][0-9]{0,3999}(?![0-9])|0(?![0-9])|\.|'([^'~]|~['~])*'", re.DOTALL)
TUPLE = re.compile(r"\((A(,A)*)?\)")


def slow_packed(thing):
    if thing is None:
        return "."
    if type(thing) is int:
        return str(thing)
    if type(thing) is str:
        return "'" + "".join("~" + sign if sign in "'~" else sign for sign in thing) + "'"
    return "(" + ",".join(slow_packed(part) for part in thing) + ")"


def is_whole(text):
    """Whether a text is that of a thing, by putting A for all that is one from the inside out."""
    told, at = "", 0
    while at < len(text):
        atom = ATOM.match(text, at)
        if atom and (at == 0 or text[at - 1] in "(,"):
            told, at = told + "A", atom.end()
        elif text[at] in "(),":
            told, at = told + text[at], at + 1
        else:
            return False
    for _ in range(30):
        told = TUPLE.sub("A", told)
    return told == "A"


def can_go_on(text):
    """Whether a text of a thing begins so."""
    return any(is_whole(text + end + ")" * many) for end in ("", "1", "'", "''")
               for many in range(min(31, text.count("(") + 1)))


def slow_place(text):
    """The number of the first sign at which no text of a thing can go on, its length if it ends too soon, None of whole
    ones."""
    for at in range(len(text)):
        if not can_go_on(text[:at + 1]):
            return at
    return None if is_whole(text) else len(text)


def is_like(thing, other):
    """Equal, flags being unlike numbers."""
    return type(thing) is type(other) and thing == other and repr(thing) == repr(other)


THINGS = [0, 1, -1, 7, -10, 10 ** 20, -10 ** 20 + 1, 10 ** 3999, 10 ** 4000 - 1, -(10 ** 4000 - 1), None, "", "a", "'",
          "~", "~'", "''", "\n",
          SIGNS, "(1,2)", ".", "x" * 5000, (), (None,), (1,), ((),), ("", ""),
          (1, (2, "'~", None, ()), "\n", ((((),),),)), NEAR, S,
          deep(tuple, 30), tuple(range(300))]


class Packed(unittest.TestCase):
    def test_there_and_back(self):
        for thing in [*THINGS, tuple(THINGS[:-2]), ("a", (tuple(THINGS[:25]),))]:
            text = packed(thing)
            self.assertEqual(text, slow_packed(thing))
            self.assertTrue(is_like(unpacked(text), thing))

    def test_small_ones(self):
        for thing, text in ((12, "12"), (-3, "-3"), (0, "0"), (None, "."), ("", "''"), ("it's ~", "'it~'s ~~'"),
                            ((), "()"), ((1,), "(1)"),
                            ((1, None, ("a", ())), "(1,.,('a',()))"), ("a\nb", "'a\nb'")):
            self.assertEqual(packed(thing), text)
            self.assertTrue(is_like(unpacked(text), thing))

    def test_by_chance(self):
        def some(chance, depth):
            kind = chance.choice(["int", "none", "str", "tuple", "tuple"] if depth < 30 else ["int", "none", "str"])
            if kind == "int":
                return chance.choice([-1, 1]) * chance.randrange(10 ** chance.choice([1, 2, 20, 50, 3999]))
            if kind == "str":
                return "".join(chance.choice(SIGNS + "'~'~") for _ in range(chance.randrange(8)))
            if kind == "none":
                return None
            return tuple(some(chance, depth + 1) for _ in range(chance.randrange(4)))
        for chance in chances(300):
            thing = (some(chance, 1), some(chance, 1))
            self.assertEqual(packed(thing), slow_packed(thing))
            self.assertTrue(is_like(unpacked(packed(thing)), thing))

    def test_no_things(self):
        bad = [True, False, [], {}, b"", "\t", "\u00e4", "a\r", print, State(S), range(2), ValueError("x"), object(),
               bytearray(1), 10 ** 4000,
               -10 ** 4000, 10 ** 6000]
        for thing in bad:
            for one in (thing, (thing,), (1, (thing, 2)), ((((thing,),),),)):
                self.assertRaises(NoThing, packed, one)
        for depth in (31, 32, 50, 900):
            self.assertRaises(NoThing, packed, deep(tuple, depth))
        self.assertRaises(NoThing, packed, (deep(tuple, 30),))
        packed((deep(tuple, 29), deep(tuple, 29)))

    def test_things_of_all_kinds(self):
        seen = {"told": 0, "not": 0}
        for thing in odd_things():
            try:
                text = packed(thing)
            except NoThing:
                seen["not"] += 1
            else:
                seen["told"] += 1
                self.assertTrue(is_like(unpacked(text), thing))
        self.assertGreater(min(seen.values()), 50, seen)

    def test_equal_calls(self):
        thing = (1, ("a", None), "\n~")
        for _ in range(2):
            self.assertEqual(unchanged(self, packed, thing), "(1,('a',.),'\n~~')")


class Unpacked(unittest.TestCase):
    def place(self, text):
        with self.assertRaises(BadText) as caught:
            unpacked(text)
        self.assertIs(type(caught.exception), BadText)
        return caught.exception.place

    def compare(self, text):
        wanted = slow_place(text)
        if wanted is None:
            self.assertEqual(packed(unpacked(text)), text)
        else:
            self.assertEqual(self.place(text), wanted, text)
        return wanted is None

    def test_each_kind_of_break(self):
        for text, place in (("", 0), ("-", 1), ("-0", 1), ("-01", 1), ("01", 1), ("00", 1), ("0 ", 1), ("12x", 2),
                            ("12,", 2), ("1)", 1), ("--1", 1),
                            ("-a", 1), ("+1", 0), (" 1", 0), ("1 ", 1), ("a", 0), ("..", 1), (".1", 1), ("'", 1),
                            ("'a", 2), ("'a'b", 3), ("'~", 2),
                            ("'~a'", 2), ("'a~'", 4), ("'''", 2), ("(", 1), ("(1", 2), ("(1,", 3), ("(,", 1),
                            ("(1,)", 3), ("(1,,2)", 3), ("(1 ,2)", 2),
                            ("(1, 2)", 3), ("()x", 2), ("())", 2), ("(()", 3), ("(01)", 2), ("(-0)", 2), ("(1.)", 2),
                            ("(1'a')", 2), (")", 0), (",", 0),
                            ("('a', 'b')", 5), ("_", 0), ("None", 0), ("1\n", 1), ("\n", 0), ("(\n", 1), ("1_0", 1),
                            ("1.0", 1), ("1e5", 1), ("~", 0)):
            self.assertEqual(self.place(text), place, text)
            self.assertEqual(slow_place(text), place, text)

    def test_digits(self):
        self.assertEqual(unpacked("9" * 4000), 10 ** 4000 - 1)
        self.assertEqual(unpacked("-" + "9" * 4000), 1 - 10 ** 4000)
        self.assertEqual(self.place("9" * 4001), 4000)
        self.assertEqual(self.place("-" + "9" * 4001), 4001)
        self.assertEqual(self.place("(1," + "1" * 4002 + ")"), 4003)
        self.assertEqual(self.place("1" * 20000), 4000)

    def test_depth(self):
        self.assertEqual(unpacked("(" * 30 + ")" * 30), deep(tuple, 30))
        self.assertEqual(unpacked("(" * 30 + "1,'('" + ")" * 30)[0][0][0][0] == deep(tuple, 2), False)
        self.assertEqual(self.place("(" * 31 + ")" * 31), 30)
        self.assertEqual(self.place("(" * 20000), 30)
        self.assertEqual(self.place("(" * 30), 30)
        self.assertEqual(self.place("(" * 29 + "(),(),((" ), 36)
        self.assertEqual(self.place("(" * 29 + "(),(),(" + ")" * 29), 29 + 7 + 29)
        self.assertEqual(self.place("(" * 30 + ")" * 31), 60)
        self.assertEqual(self.place("(" * 30 + "1,("), 32)

    def test_all_short_texts(self):
        whole = 0
        for many in range(5):
            for signs in itertools.product("01-.'~(),", repeat=many):
                whole += self.compare("".join(signs))
        self.assertEqual(whole, 92)

    def test_texts_one_sign_off(self):
        seen = {True: 0, False: 0}
        for thing in ((1, "a~'", None, (-20, ())), ("\n", ((0,), "(")), -105, "~~''"):
            text = packed(thing)
            for at in range(len(text) + 1):
                for wrong in (text[:at] + text[at + 1:], *(text[:at] + sign + text[at:] for sign in "0-'~(),.1a\n"),
                              *(text[:at] + sign + text[at + 1:] for sign in "0-'~(),.1a\n")):
                    seen[self.compare(wrong)] += 1
        self.assertGreater(min(seen.values()), 100, seen)

    def test_no_strings_of_such_signs(self):
        for thing in odd_things():
            if type(thing) is not str:
                self.assertEqual(self.place(thing), -1)
        for text in ("\t", "1\t", "'\u00e4'", "x\r", "1\x00", "\x7f", b"1"):
            self.assertEqual(self.place(text), -1)

    def test_equal_calls(self):
        for _ in range(2):
            self.assertEqual(unchanged(self, unpacked, "(1,'a')"), (1, "a"))
