"""Point 9.2: desks, led and asked by lines."""

import unittest

from shownviews.desks import Desk
from shownviews.errors import (BadText, Barred, NoLine, NoPrime, NoSchema, NotYet, NoText, ViewError)
from shownviews.lots import answer
from shownviews.papers import answer_of, cost, judge, least_paper
from shownviews.proofs import is_proof, lacks
from shownviews.roots import root_number, tree_of
from shownviews.ruletexts import rule_text
from shownviews.states import State, joined, next_edit, tables, titles, with_edit
from shownviews.texts import edit_text, state_text
from shownviews.things import packed, unpacked
from tests.helpers import FAR, NEAR, S, chances, odd_things, random_deed, random_edits, rule, saw, state_from, unchanged, v
from tests.slowly import slow_fact_text
from tests.test_disks import field
from tests.test_mixing import not_primes
from tests.test_texts import slow_deed, slow_mark

P = 2 ** 61 - 1
LINES = ["bring link 'a','b'", "bring link 'b','c'", "rule one 'near(?0, ?1) if link(?0, ?1)'",
         "rule two 'near(?0, ?2) if near(?0, ?1), link(?1, ?2)'",
         "put name 'k','it~'s ~~'", "add stock 'x' 3", "add stock 'x' 99999999999999999999", "take name 'z'",
         "drop link 'b','c'", "bring link 'b','c'",
         "rule bad 'u(?0) if ?0 < 1'", "rule three 'gone(1) if 1 = 1'", "unrule three"]


def desk_of(*lines, schema=S):
    desk = Desk(schema, P)
    for line in lines:
        desk.tell(line)
    return desk


def term_text(one):
    return "_" if one is None else slow_fact_text(("a", (one,)))[2:-1]


def pattern_text(pattern):
    return pattern[0] + "(" + ",".join(term_text(one) for one in pattern[1]) + ")"


class Leading(unittest.TestCase):
    def test_deeds(self):
        desk, state = Desk(S, P), State(S)
        self.assertEqual((desk.lines(), desk.state()), ([], State(S)))
        deeds = [("bring", "link", ("a", "b")), ("put", "name", ("'~", " ")), ("take", "name", ("k",)),
                 ("add", "stock", ("x",), -(10 ** 20 - 1)),
                 ("drop", "link", ("a", "b")), ("rule", "one", FAR), ("unrule", "two"), ("rule", "link", NEAR)]
        for number, deed in enumerate(deeds, 1):
            state = with_edit(state, next_edit(state, 1, deed))
            self.assertEqual(desk.tell(slow_deed(deed)), f"ok {number}")
            self.assertEqual(desk.state(), state)
        self.assertEqual(desk.lines(), [slow_deed(deed) for deed in deeds])

    def test_keys_of_no_place(self):
        schema = (("all", 0, ("word", "number")), ("total", "sum", ("number",)))
        desk = desk_of("put all 'a',-1", "add total - 4", schema=schema)
        self.assertEqual([desk.tell("ask all(_,_)"), desk.tell("ask total(_)")], ["all('a',-1)", "total(4)"])
        self.assertEqual(desk.tell("take all -"), "ok 3")
        self.assertEqual(desk.tell("text"), "1:3 3 ; cell all - 3 1 - ; sum total - 1 4")

    def test_bent_deeds(self):
        desk = desk_of(*LINES)
        kept = (desk.lines(), desk.state())
        for line in ("put", "put ", "take", "add", "bring", "drop", "rule", "unrule", "bring link", "bring link ",
                     "bring link 'a'", "bring link 'a','b' ", "bring  link 'a','b'",
                     "bring link 'a', 'b'", "bring link 'a','b','c'", "bring none 'a','b'", "bring name 'a','b'",
                     "put link 'a','b'", "put name 'k'", "take name 'k','v'", "take name -",
                     "add stock 'x' 0", "add stock 'x' 03", "add stock 'x' -0", "add stock 'x' " + "9" * 21,
                     "add stock 'x'", "add stock 'x',3", "rule one near(1) if 1 = 1", "rule one 'x'",
                     "rule ONE 'near(1) if 1 = 1'", "rule one 'near(1) if link(1)'", "rule one 'link(1, 2) if 1 = 1'",
                     "rule one", "unrule one two", "unrule ONE", "unrule abcdefghi",
                     "bring link 'a','" + "b" * 21 + "'", "bring link 'a','~b'", "bring near 'a','b'", "put " * 5000):
            with self.assertRaises(NoText, msg=line[:60]):
                desk.tell(line)
        self.assertEqual((desk.lines(), desk.state()), kept)

    def test_joins(self):
        desk = desk_of(*LINES[:2])
        other = State(S)
        for edit in [(9, 1, 5, (), ("bring", "link", ("x", "y"))), (1, 1, 1, (), ("bring", "link", ("a", "b")))]:
            other = with_edit(other, edit)
        state = desk.state()
        line = f"join {state_text(other)}"
        self.assertEqual(desk.tell(line), "ok")
        self.assertEqual(desk.state(), joined(state, other))
        self.assertEqual(desk.lines(), [*LINES[:2], line])
        # What is there already changes nothing, and is no line that did.
        for again in (line, f"join {state_text(state)}", "join - 0", f"join {state_text(desk.state())}"):
            self.assertEqual(desk.tell(again), "ok")
        self.assertEqual(desk.lines(), [*LINES[:2], line])
        self.assertEqual(desk.tell("unrule x"), "ok 3")
        self.assertEqual(desk.state().mark, ((1, 3), (9, 1)))
        for bad in ("join ", "join x", "join  - 0", "join - 0 ", "join 7:1 0", "join 7:1 1 ; bag link 'a','b' 7:2",
                    "join 7:1 1 ; bag none 'a','b' 7:1"):
            self.assertRaises(NoText, desk.tell, bad)
        self.assertEqual(len(desk.lines()), 4)

    def test_edits(self):
        desk = desk_of(*LINES[:2])
        one, two, own = "9 1 5 1:2 unrule x", "9 2 6 9:1 unrule y", "1 3 7 1:2 unrule z"
        self.assertEqual(field(self, NotYet, desk.tell, f"edits {two}"), {"lacking": ((9, 1, 1),)})
        self.assertEqual(desk.tell(f"edits {one}"), "ok 3")
        self.assertEqual(desk.tell(f"edits {one}"), "ok 3")
        self.assertEqual(desk.tell(f"edits {two}"), "ok 4")
        self.assertEqual(desk.tell("edits 1 1 1 - unrule other"), "ok 4")
        self.assertEqual(field(self, NotYet, desk.tell, "edits 1 4 8 1:3 unrule z"), {"lacking": ((1, 3, 3),)})
        self.assertEqual(desk.tell(f"edits {own}"), "ok 5")
        self.assertEqual(desk.lines(), [*LINES[:2], f"edits {one}", f"edits {two}", f"edits {own}"])
        self.assertEqual(desk.tell("unrule x"), "ok 4")
        self.assertEqual(desk.tell("mark"), "1:4,9:2")
        for bad in ("edits ", "edits x", f"edits {one} ", f"edits  {one}", "edits 9 3 6 9:1 unrule y",
                    "edits 9 3 7 9:2 put none 'a'"):
            self.assertRaises(NoText, desk.tell, bad)
        self.assertEqual(len(desk.lines()), 6)


class Asking(unittest.TestCase):
    def test_rows(self):
        desk = desk_of(*LINES)
        for line, told in (("ask near('a',_)", "near('a','b') near('a','c')"),
                           ("ask near(_,_)", "near('a','b') near('a','c') near('b','c')"), ("ask near('z',_)", "none"),
                           ("ask link(_,'b')", "link('a','b')"), ("ask name(_,_)", "name('k','it~'s ~~')"),
                           ("ask stock(_,_)", "stock('x',100000000000000000002)"),
                           ("ask stock(_,100000000000000000002)", "stock('x',100000000000000000002)"),
                           ("ask none(_)", "none"), ("ask rule(_,1)", "none"), ("ask near(_)", "none"),
                           ("ask near(1,-2,_,'',_)", "none"), ("ask gone(_)", "none"),
                           ("ask u(_)", "barred ('unsafe','bad')"), ("ask u(_,_)", "barred ('unsafe','bad')")):
            self.assertEqual(desk.tell(line), told, line)
        desk.tell("rule ring 'x(1) if not y(1)'")
        desk.tell("rule sing 'y(1) if x(1)'")
        self.assertEqual(desk.tell("ask x(_)"), "barred ('ring',('x','y'))")

    def test_papers(self):
        desk = desk_of(*LINES)
        for question in (("near", ("a", None)), ("link", (None, "b")), ("u", (None,)), ("none", (1,)),
                         ("name", ("k", None)), ("stock", (None, None))):
            told = desk.tell(f"paper {pattern_text(question)}")
            self.assertEqual(unpacked(told), answer_of(P, desk.state(), (), question))
            self.assertEqual(desk.tell(f"judge {pattern_text(question)} {told}"), "taken")
            self.assertEqual(desk.tell(f"judge near(_,'z') {told}"), "not taken")
            self.assertEqual(desk.tell(f"cost {pattern_text(question)}"),
                             " ".join(str(n) for n in cost(unpacked(told))))
            # A desk of the same facts and mark takes it, another one does not.
            self.assertEqual(desk_of(*LINES).tell(f"judge {pattern_text(question)} {told}"), "taken")
            self.assertEqual(desk_of(*LINES[:5]).tell(f"judge {pattern_text(question)} {told}"), "not taken")
        least = least_paper(P, desk.state(), ("near", (None, "c")))
        self.assertEqual(desk.tell(f"judge near(_,'c') {packed(least)}"), "taken")
        for thing in (None, 1, "a", (), (1, 2, 3), ((), (), ())):
            self.assertEqual(desk.tell(f"judge near(_,'c') {packed(thing)}"), "not taken")

    def test_why_and_lacks(self):
        desk = desk_of(*LINES)
        for fact in (("near", ("a", "b")), ("near", ("a", "c"))):
            told = unpacked(desk.tell(f"why {slow_fact_text(fact)}"))
            state = desk.state()
            self.assertTrue(is_proof(S, titles(state), tables(state), *fact, told))
        for line, told in (("why near('c','a')", "none"), ("why link('a','b')", "none"), ("why none(1)", "none"),
                           ("why near(1)", "none"), ("why rule('a','b')", "none"),
                           ("lacks near('a','c')", "there"), ("lacks link('a','b')", "there"),
                           ("lacks link('b','a')", "none"), ("lacks none(1)", "none"),
                           ("lacks near('c','a')", "one:0 two:0"),
                           ("lacks near('a','a')", "one:0 two:1"), ("lacks near(1)", "one:-1 two:-1"),
                           ("lacks stock('x',100000000000000000002)", "there"), ("lacks gone(1)", "none")):
            self.assertEqual(desk.tell(line), told, line)
        self.assertEqual(field(self, Barred, desk.tell, "why u(1)"), {"bar": ("unsafe", "bad")})
        self.assertEqual(field(self, Barred, desk.tell, "lacks u(1)"), {"bar": ("unsafe", "bad")})

    def test_the_whole(self):
        desk = Desk(S, P)
        self.assertEqual([desk.tell(word) for word in ("mark", "root", "facts", "text")],
                         ["-", str(root_number(P, State(S))), "0", "- 0"])
        for line in LINES:
            desk.tell(line)
            state = desk.state()
            self.assertEqual([desk.tell(word) for word in ("mark", "root", "facts", "text")],
                             [slow_mark(state.mark), str(root_number(P, state)), str(len(tree_of(P, state).facts)),
                              state_text(state)])

    def test_asking_changes_nothing(self):
        desk = desk_of(*LINES)
        kept = (desk.lines(), desk.state())
        asked = ["ask near('a',_)", "paper near('a',_)", "cost near('a',_)", "why near('a','c')", "lacks near('c','a')",
                 "mark", "root", "facts", "text", "ask u(_)",
                 "judge near('a',_) 1"]
        told = [desk.tell(line) for line in asked]
        desk.lines().clear()
        self.assertEqual([unchanged(self, desk.tell, line) for line in asked], told)
        self.assertEqual((desk.lines(), desk.state()), kept)


class Errors(unittest.TestCase):
    def test_of_new_desks(self):
        for thing in odd_things():
            if thing != S:
                self.assertRaises(NoSchema, Desk, thing, None)
        for thing in not_primes():
            self.assertRaises(NoPrime, Desk, S, thing)

    def test_no_lines(self):
        desk = desk_of(*LINES)
        kept = (desk.lines(), desk.state())
        for thing in odd_things():
            self.assertRaises(NoText if type(thing) is str and thing == "rule" else NoLine, desk.tell, thing)
        for line in ("", " ", "x", "Mark", "mark ", " mark", "mark mark", "root 1", "facts\n", "text\n", "\n", "mark\n",
                     "text x", "facts ", "root ", "bring\tlink", "bring link 'a','\t'",
                     "bring link 'a','b'\n", "marks", "putlink", "asknear(_)", "told", "lines", "state", "link",
                     "near('a',_)", "'", "put\n", "\u00e4", "join\n- 0", "judge", "ask", "paper", "cost",
                     "why", "lacks", "join", "edits", "ask ", "paper ", "judge ", "cost ", "why ", "lacks ",
                     "ask  near('a',_)", "ask near('a',_) ", "ask near('a',_)x", "ask near('a', _)",
                     "ask near ('a',_)", "ask near()", "ask near", "ask near(", "ask near(_", "ask near(_,)",
                     "ask near(,_)", "ask near(_ ,_)", "ask Near(_)", "ask abcdefghi(_)", "ask (_)",
                     "ask near(01)", "ask near(-0)", "ask near(+1)", "ask near(.)", "ask near('a)", "ask near('~a')",
                     "ask near('" + "a" * 21 + "')", "ask near(_,_,_,_,_,_)", "ask near(" + "9" * 5000 + ")",
                     "ask near(?0)", "ask near('a',_) near('a',_)", "cost near(a)", "paper near(a)", "why near('a',_)",
                     "why near(_)", "lacks near(_,'b')", "lacks near", "why near('a','b') ",
                     "lacks  near('a','b')", "judge near('a',_)", "judge near('a',_)1", "judge 1", "judge near(a) 1",
                     "judge  near('a',_) 1", "why", "facts 4",
                     "mark -", "unruled x", "ASK near(_)"):
            with self.assertRaises(NoLine, msg=line[:60]):
                desk.tell(line)
        self.assertEqual((desk.lines(), desk.state()), kept)

    def test_bad_texts_of_things(self):
        desk = desk_of(*LINES)
        for text, place in (("", 0), ("x", 0), (" 1", 0), ("1 ", 1), ("(1", 2), ("01", 1), ("'a", 2), ("(" * 31, 30),
                            ("9" * 4001, 4000)):
            self.assertEqual(field(self, BadText, desk.tell, f"judge near('a',_) {text}"), {"place": place})
        # A pattern that is none comes first.
        self.assertRaises(NoLine, desk.tell, "judge near(a) x")

    def test_errors_are_just_named_ones(self):
        """Lines one sign off lead to what they say, or to an error of the package alone, and change nothing then."""
        seen = {"told": 0, "not": 0}
        for line in (*LINES, "ask near('a',_)", "why near('a','c')", "lacks near('a','a')",
                     "judge near('a',_) ((),(),1)", "mark", "edits 9 1 1 - unrule x", "join 9:1 1 ; rule a 1 9 -"):
            for at in range(len(line) + 1):
                for wrong in (line[:at] + line[at + 1:], line[:at] + "'" + line[at:], line[:at] + " " + line[at + 1:],
                              line[:at] + "1" + line[at + 1:], line[:at] + "(" + line[at:]):
                    desk = desk_of(*LINES[:4])
                    kept = (desk.lines(), desk.state())
                    try:
                        told = desk.tell(wrong)
                    except ViewError as error:
                        self.assertIn(type(error), (NoLine, NoText, BadText, NotYet, Barred))
                        self.assertEqual((desk.lines(), desk.state()), kept)
                        seen["not"] += 1
                    else:
                        self.assertIs(type(told), str)
                        self.assertEqual(desk.lines(), kept[0] + ([wrong] if desk.state() != kept[1] else []))
                        seen["told"] += 1
        self.assertGreater(min(seen.values()), 200, seen)


class Facts(unittest.TestCase):
    ASKED = ("mark", "root", "facts", "text", "ask near(_,_)", "ask stock(_,_)", "ask name(_,_)", "cost near('a',_)",
             "paper near(_,'c')", "lacks near('c','z')", "ask u(_)")

    def test_lines_lead_a_new_desk_to_the_same(self):
        for chance in chances(40):
            edits = random_edits(chance, [2, 7, 30], 15)
            desk = Desk(S, chance.choice([1009, P]))
            numbers = 0
            for _ in range(30):
                word = chance.choice(["deed", "deed", "edit", "join", "ask"])
                if word == "deed":
                    numbers += 1
                    self.assertEqual(desk.tell(slow_deed(random_deed(chance))), f"ok {numbers}")
                if word == "edit":
                    try:
                        told = desk.tell(f"edits {edit_text(chance.choice(edits))}")
                    except NotYet:
                        continue
                    self.assertEqual(told, f"ok {sum(number for _, number in desk.state().mark)}")
                if word == "join":
                    mark = chance.choice(edits)[3]
                    desk.tell(f"join {state_text(state_from([edit for edit in edits if saw(mark, edit[0], edit[1])]))}")
                if word == "ask":
                    desk.tell(chance.choice(self.ASKED))
            other = Desk(S, desk._p)
            for line in desk.lines():
                other.tell(line)
            self.assertEqual((other.lines(), other.state()), (desk.lines(), desk.state()))
            self.assertEqual([other.tell(line) for line in self.ASKED], [desk.tell(line) for line in self.ASKED])

    def test_rows_by_chance(self):
        for chance in chances(20):
            desk = Desk(S, P)
            for _ in range(25):
                desk.tell(slow_deed(random_deed(chance)))
            state = desk.state()
            for question in (("near", (None, None)), ("link", (None, chance.choice("abc"))), ("stock", (None, None)),
                             ("name", ("k", None))):
                rows = answer(S, titles(state), (), tables(state), question)
                wanted = " ".join(slow_fact_text((question[0], row)) for row in rows) or "none"
                self.assertEqual(desk.tell(f"ask {pattern_text(question)}"), wanted)
                told = unpacked(desk.tell(f"paper {pattern_text(question)}"))
                self.assertTrue(judge(S, P, int(desk.tell("root")), question, told))
            fact = ("near", (chance.choice("abc"), chance.choice("abc")))
            told = lacks(S, titles(state), tables(state), *fact)
            wanted = "there" if told is None else " ".join(f"{title}:{place}" for title, place in told) or "none"
            self.assertEqual(desk.tell(f"lacks {slow_fact_text(fact)}"), wanted)

    def test_odd_words(self):
        desk = Desk(S, P)
        odd = rule("x", ["it's", "~"], ("is", "link", ("~'", v(0))))
        desk.tell(slow_deed(("rule", "one", odd)))
        desk.tell(slow_deed(("bring", "link", ("~'", ""))))
        self.assertEqual(desk.tell("ask x(_,_)"), "x('it~'s','~~')")
        self.assertEqual(desk.tell("why x('it~'s','~~')"), "(('x',('it~'s','~~'),'one',((0,''))))")
        self.assertIn(packed(rule_text(odd)), desk.tell("paper x(_,_)"))
