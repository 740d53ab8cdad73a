"""Point 2.4: texts of rules."""

import unittest

from shownviews.errors import BadText
from shownviews.rules import is_rule
from shownviews.ruletexts import read_rule, rule_text
from tests.helpers import ANY, FAR, NEAR, S, chances, odd_things, random_book, rule, unchanged, v

X, Y = v(0), v(19)
TEXTS = [
    ("is", ("is", "link", (X, "b")), "link(?0, 'b')"),
    ("blank", ("is", "link", (ANY, Y)), "link(_, ?19)"),
    ("not", ("not", "near", (1,)), "not near(1)"),
    ("less", ("less", X, 3), "?0 < 3"),
    ("same", ("same", "a", Y), "'a' = ?19"),
    ("unlike", ("unlike", -7, "x"), "-7 != 'x'"),
    ("same of a variable", ("same", X, 0), "?0 = 0"),
    ("many", ("many", 3, "link", (ANY, ANY)), "?3 = many link(_, _)"),
    ("sum", ("sum", 0, "stock", (X, ANY), 1), "?0 = sum stock(?0, _) 1"),
    ("least", ("least", 19, "x", (ANY,), 0), "?19 = least x(_) 0"),
    ("greatest", ("greatest", 1, "x", (1, 2, 3, 4, ANY), 4), "?1 = greatest x(1, 2, 3, 4, _) 4"),
]
NAMED = ("is", "not", "if", "less", "same", "unlike", "many", "sum", "least", "greatest", "any", "a", "z", "zzzzzzzz")
WORTHS = (0, 7, -7, 10 ** 20 - 1, 1 - 10 ** 20, "", "'", "~", "''", "~~", "~'", "'~", "a'b~c",
          ") if x(", ", ", "?0", "_", "7", " ", "(", "a" * 20, "'" * 20, "~" * 20, " = many x(_)")


class Texts(unittest.TestCase):
    def back(self, one, text=None):
        told = rule_text(one)
        if text is not None:
            self.assertEqual(told, text)
        self.assertTrue(is_rule(S, one))
        self.assertEqual(read_rule(S, told), one)
        self.assertEqual(rule_text(read_rule(S, told)), told)

    def test_the_examples(self):
        self.back(NEAR, "near(?0, ?1) if link(?0, ?1)")
        self.back(FAR, "near(?0, ?2) if near(?0, ?1), link(?1, ?2)")

    def test_each_kind_of_condition(self):
        for label, condition, text in TEXTS:
            with self.subTest(label):
                self.back(rule("near", [X], condition), f"near(?0) if {text}")
        conditions = [condition for _, condition, _ in TEXTS[:8]]
        texts = ", ".join([text for _, _, text in TEXTS[:8]])
        self.back(rule("near", [X, 1, "a"], *conditions), f"near(?0, 1, 'a') if {texts}")

    def test_names_that_are_words_of_texts(self):
        for name in NAMED:
            for other in NAMED:
                self.back(rule(name, [1], ("is", other, (1,)), ("not", other, (1,)), ("many", 0, other, (1,)),
                               ("sum", 0, other, (ANY,), 0), ("is", name, (ANY,))))

    def test_worths(self):
        for worth in WORTHS:
            self.back(rule("x", [worth, 1], ("is", "link", (worth, worth)), ("less", worth, 1), ("same", X, worth),
                           ("unlike", 2, worth), ("many", 1, "y", (worth, ANY)), ("least", 1, "y", (worth, ANY), 1)))
        self.back(rule("x", ["a'b~c"], ("less", -1, "")), "x('a~'b~~c') if -1 < ''")

    def test_rules_that_are_not_safe(self):
        self.back(rule("x", [X], ("less", X, Y)), "x(?0) if ?0 < ?19")

    def test_rules_by_chance(self):
        for chance in chances(300):
            for one in random_book(chance, {"link": 2, "stock": 2, "p": 1, "q": 4}, ["p", "q"]).values():
                self.back(one)

    def test_no_two_have_one_text(self):
        told = {}
        for chance in chances(300):
            for one in random_book(chance, {"link": 2, "p": 1, "q": 2}, ["p", "q"]).values():
                self.assertEqual(told.setdefault(rule_text(one), one), one)

    def test_nothing_is_changed(self):
        unchanged(self, rule_text, FAR)
        unchanged(self, read_rule, S, rule_text(FAR))


class BadTexts(unittest.TestCase):
    def bad(self, text, place=1):
        with self.assertRaises(BadText) as caught:
            read_rule(S, text)
        self.assertEqual(caught.exception.place, place, text)

    def test_what_is_no_string(self):
        for thing in odd_things():
            if not isinstance(thing, str):
                self.bad(thing, 0)
        self.bad(FAR, 0)

    def test_what_is_no_text_of_a_rule(self):
        for text in ("", " ", "near", "near(", "near()", "near(1)", "near(1) if", "near(1) if ", "near(1) if x", "if",
                     "near(1) if x()", "near(1) if (1)", "(1) if x(1)", "near(1)if x(1)", "near(1) if x(1),",
                     "near(1) if x(1), ", "near(1) if x(1) ", " near(1) if x(1)", "near(1) if x(1)\n",
                     "near(1)  if x(1)", "near(1) if x(1),x(1)", "near(1, ) if x(1)", "near(1,2) if x(1)",
                     "near( 1) if x(1)", "near(1) if not(1), notx(1), not  x(1)", "near(1) if notx (1)",
                     "near(1) if not", "near(1) if not ", "near(1) if 1 <2", "near(1) if 1< 2", "near(1) if 1 > 2",
                     "near(1) if 1 == 2", "near(1) if 1 <", "near(1) if 1 < _", "near(1) if _ = 1", "near(_) if x(1)",
                     "near(1) if _", "near(1) if ?0", "near(1) if ?0 = many", "near(1) if ?0 = many ",
                     "near(1) if ?0 = manyx(1)", "near(1) if 1 = many x(1)", "near(1) if ?0 = many x(_) 0",
                     "near(1) if ?0 = sum x(_)", "near(1) if ?0 = sum x(_) ", "near(1) if ?0 = sum x(_) 1",
                     "near(1) if ?0 = sum x(1) 0", "near(1) if ?0 = sum x(_) 00", "near(1) if ?0 = sum x(_) -0",
                     "near(1) if ?0 = some x(_) 0", "near(1) if ?0 != many x(_)", "near(1) if ?0 < many x(_)",
                     "near(1) if ?0 = is x(_)", "near(1) if ?0 = less x(_) 0", "x(1) if x(?20)", "x(1) if x(?00)",
                     "x(1) if x(?-1)", "x(1) if x(?)", "x(1) if x(? 0)", "x(1) if x(?x)", "x(1) if x(01)",
                     "x(1) if x(-0)", "x(1) if x(--1)", "x(1) if x(-)", "x(1) if x(+1)", "x(1) if x(1.0)",
                     "x(1) if x(')", "x(1) if x('a)", "x(1) if x('a''b')", "x(1) if x('~')", "x(1) if x('~a')",
                     "x(1) if x('\n')", "x(1) if x(a)", 'x(1) if x("a")', "x(1) if x('a~')", "X(1) if x(1)",
                     "x(1) if X(1)"):
            self.bad(text)

    def test_rules_of_no_schema(self):
        for text in ("link('a', 'b') if x(1)", "rule(1) if x(1)", "x(1) if rule(1)", "x(1) if link(1)",
                     "x(1) if not link(1)", "x(1) if ?0 = many link(_, _, _)", "abcdefghi(1) if x(1)",
                     "x(1) if abcdefghi(1)", "x(1, 2, 3, 4, 5, 6) if x(1)", "x(1) if x(1, 2, 3, 4, 5, 6)",
                     "x(1) if " + ", ".join(["y(1)"] * 9), "x(1) if x(" + "1" * 21 + ")",
                     "x(1) if x('" + "a" * 21 + "')", "x(1) if x(-" + "9" * 21 + ")"):
            self.bad(text)
        self.assertEqual(len(read_rule(S, "x(1) if " + ", ".join(["y(1)"] * 8))[1]), 8)

    def test_a_sign_more_less_otherwise_turned(self):
        for _, condition, _ in [*TEXTS, (None, ("is", "x", ("a'~b", -12)), None)]:
            text = rule_text(rule("near", [X, "~"], condition, ("less", Y, 10)))
            told = [text[:at] + sign + text[at:] for at in range(len(text) + 1) for sign in "?_'~0 9a,()=-\n"]
            told += [text[:at] + text[at + 1:] for at in range(len(text))]
            told += [text[:at] + sign + text[at + 1:] for at in range(len(text)) for sign in "?_'~0 1z,()<!-\n"]
            told += [text[:at] + text[at + 1:at + 2] + text[at:at + 1] + text[at + 2:] for at in range(len(text))]
            for other in told:
                try:
                    one = read_rule(S, other)
                except BadText as error:
                    self.assertEqual(error.place, 1)
                else:
                    self.assertTrue(is_rule(S, one))
                    self.assertEqual(rule_text(one), other)

    def test_long_texts(self):
        for sign in "1'~?_a( ,-":
            self.bad(sign * 20000)
            self.bad("x(1) if " + sign * 19000)
            self.bad("x(" + sign * 19000)
        self.bad("x(1) if " + ", ".join(["y(1)"] * 3000))
        self.bad("x(1) if x(" + "9" * 5000 + ")")
        self.bad("x(1) if x(?" + "9" * 5000 + ")")
        self.bad("x(1) if ?0 = sum x(_) " + "9" * 5000)
