"""Point 5.1: mixing, facts and their texts and numbers."""

import re
import unittest

from shownviews.errors import NoFact, NoPrime, NoText
from shownviews.mixing import fact_text, mix, number_of
from shownviews.states import State
from tests.helpers import ANY, S, deep, odd_things, sort_of, v
from tests.slowly import SIGNS, slow_fact_text, slow_mix, slow_number

PRIMES = [1000, 1009, 65537, 2 ** 61 - 1, 2 ** 127 - 1, 2 ** 127]
FACTS = [("stock", ("a~b", -3)), ("a", (0,)), ("abcdefgh", ("", "", "", "", "")), ("x", ("'", "~'~", 10 ** 30)),
         ("x", (-10 ** 39, "-1", ",")), ("rule", ("near", "near(?0) if link(?0, _)")), ("rule", ("rule", "")),
         ("rule", ("a", "two\nlines of 'text' ~" * 40)), ("link", ("rule", "(")), ("x", (10 ** 3000 + 7,))]


def not_primes():
    told = [thing for thing in odd_things() if type(thing) is not int or not 1000 <= thing <= 2 ** 127]
    return told + [999, 2 ** 127 + 1, -1009, True, "1009", (1009,), 10 ** 39, State(S)]


def is_name(thing):
    return type(thing) is str and re.fullmatch("[a-z]{1,8}", thing) is not None


def is_fact(thing):
    """Whether one of the things of all kinds is a fact."""
    if type(thing) is not tuple or len(thing) != 2 or not is_name(thing[0]):
        return False
    row = thing[1]
    if type(row) is not tuple or not 1 <= len(row) <= 5:
        return False
    if thing[0] == "rule":
        return len(row) == 2 and is_name(row[0]) and type(row[1]) is str and not row[1].strip(SIGNS)
    return all(type(worth) is int or sort_of(worth) for worth in row)


NOT_FACTS = [("", (1,)), ("A", (1,)), ("abcdefghi", (1,)), ("a1", (1,)), (None, (1,)), (b"a", (1,)), ("a", ()),
             ("a", (1,) * 6), ("a", [1]), ["a", (1,)], ("a", 1), ("a", "b"), ("a", None), ("a", (True,)), ("a", (None,)),
             ("a", ("\n",)), ("a", ("a\tb",)), ("a", ("a" * 21,)), ("a", ((1,),)), ("a", (1,), 1), ("a",), ("a", (ANY,)),
             ("a", (v(0),)), ("rule", ("a",)), ("rule", ("a", "b", "c")), ("rule", ("a", 1)), ("rule", (1, "a")),
             ("rule", ("", "a")), ("rule", ("A", "a")), ("rule", ["a", "b"]), ("rule", ("abcdefghi", "")),
             ("rule", ("a", None)), ("rule", ("a", "\t")), ("rule", ("a", b"b")), ("rule", (True, "b")), ("a", {1: 1})]


class Mixing(unittest.TestCase):
    def test_small_ones(self):
        self.assertEqual(mix(1009, ""), 1)
        self.assertEqual(mix(1009, "\n"), 6)
        self.assertEqual(mix(1009, " "), 1 + 3 + 1 + 5)
        self.assertEqual(mix(1009, "~"), 1 + 3 * 95 + 95 + 5)
        self.assertEqual(mix(1009, "~~"), (386 * 386 + 3 * 386 * 95 + 95 + 5) % 1009)

    def test_all_signs_by_all_primes(self):
        for p in PRIMES:
            for text in ["", *SIGNS, SIGNS, SIGNS * 7, SIGNS[::-1], "1,2", "12"]:
                self.assertEqual(mix(p, text), slow_mix(p, text))
                self.assertLess(mix(p, text), p)

    def test_no_prime(self):
        for thing in not_primes():
            self.assertRaises(NoPrime, mix, thing, "a")
            self.assertRaises(NoPrime, mix, thing, None)
            self.assertRaises(NoPrime, number_of, thing, FACTS[0])
            self.assertRaises(NoPrime, number_of, thing, None)
        for p in (1000, 2 ** 127):
            self.assertEqual(mix(p, "\n"), 6)

    def test_no_text(self):
        for thing in [*odd_things(), "\t", "a\x7f", "\x1f", "\r", "a\x00", "\xe9", b"", ("a",), ["a"]]:
            if type(thing) is not str or thing.strip(SIGNS):
                self.assertRaises(NoText, mix, 1009, thing)
            else:
                self.assertEqual(mix(1009, thing), slow_mix(1009, thing))


class Facts(unittest.TestCase):
    def test_the_example(self):
        self.assertEqual(fact_text(("stock", ("a~b", -3))), "stock('a~~b',-3)")

    def test_texts(self):
        for fact, text in ((("a", (0,)), "a(0)"), (("x", ("'", "~'~", 10 ** 30)), "x('~'','~~~'~~'," + "1" + "0" * 30 + ")"),
                           (("x", ("", -7, ",")), "x('',-7,',')"), (("rule", ("a", "x('b')\n")), "rule('a','x(~'b~')\n')"),
                           (("abcdefgh", (1, 2, 3, 4, 5)), "abcdefgh(1,2,3,4,5)")):
            self.assertEqual(fact_text(fact), text)
        for fact in FACTS:
            self.assertEqual(fact_text(fact), slow_fact_text(fact))

    def test_numbers(self):
        for p in PRIMES:
            for fact in FACTS:
                self.assertEqual(number_of(p, fact), slow_number(p, fact))
                self.assertEqual(number_of(p, fact), mix(p, fact_text(fact)))

    def test_no_fact(self):
        for thing in NOT_FACTS:
            self.told(thing, False)
        for thing in [*odd_things(), deep(tuple, 30)]:
            for fact in (thing, (thing, (1,)), ("a", thing), ("a", (1, thing)), ("rule", thing), ("rule", (thing, "a")),
                         ("rule", ("a", thing))):
                self.told(fact, is_fact(fact))

    def told(self, fact, fine):
        if fine:
            self.assertEqual(fact_text(fact), slow_fact_text(fact))
            self.assertEqual(number_of(1009, fact), slow_number(1009, fact))
        else:
            self.assertRaises(NoFact, fact_text, fact)
            self.assertRaises(NoFact, number_of, 1009, fact)
