"""Points 6.6 and 7.1 to 7.6: houses, what they write on their disks, and what they hear."""

import unittest

from shownviews.books import bar
from shownviews.disks import Disk, record
from shownviews.errors import (BadKept, BadStore, Barred, Down, NoDeed, NoLetter, NoLife, NoMark, NoName, NoPattern,
                               NoPrime, NoSchema, NoStore, NotYet, TooSmall)
from shownviews.houses import House, house_at, house_text
from shownviews.meanings import meaning
from shownviews.nears import near
from shownviews.papers import answer_of, judge
from shownviews.roots import root_number
from shownviews.states import State, joined, next_edit, tables, titles, with_edit
from shownviews.stores import Store, begun
from shownviews.texts import edit_text, read_state, state_text
from tests.helpers import FAR, NEAR, S, chances, deep, odd_things, random_deed, rule, saw, state_from, unchanged, v
from tests.slowhouse import Register, SlowHouse, both, by_rank, holds, pieces, told_by
from tests.test_disks import field, slow_record, some_kept
from tests.test_mixing import not_primes
from tests.test_papers import is_pattern

P = 2 ** 61 - 1
NOTHING = (0, 0, "")
BRING = ("bring", "link", ("a", "b"))
OTHER = (("link", "bag", ("word", "word")),)


def fresh(life=7, areas=2, room=20000):
    disk = Disk(areas, room)
    return House(life, S, P, disk), disk


def all_calls(house):
    """All methods of a house, each with arguments that name errors."""
    return [(house.life,), (house.state,), (house.stands,), (house.root,), (house.kept,), (house.gone,), (house.aside,),
            (house.faults,),
            (house.rows, None), (house.rows, "link"), (house.looks,), (house.write, None, None),
            (house.write, (), BRING), (house.ask, None, None),
            (house.ask, (), ("link", (None, None))), (house.have,), (house.hear, None), (house.hear, ("have", 9, ())),
            (house.forget, None),
            (house.forget, ()), (house.turn,), (house.fall, None), (house.fall, (NOTHING, NOTHING))]


class Texts(unittest.TestCase):
    """What stands on a house's disk, sign by sign."""

    def test_a_small_life(self):
        house, disk = fresh()
        first = slow_record(1, "first 1:73:- 01:-")
        self.assertEqual(disk.texts(), (first, ""))
        self.assertEqual(house_text(house), "1:73:- 01:-")
        self.assertEqual(house.write((), BRING), (1, ((7, 1),)))
        one = slow_record(1, "mine 7 1 1 - bring link 'a','b'")
        self.assertEqual(disk.texts(), (first + one, ""))
        self.assertEqual(disk.open_deeds(), ((), ()))
        edit = (30, 1, 9, ((7, 1),), ("add", "stock", ("x",), 3))
        self.assertEqual(house.hear(("edits", 30, (), (edit,))), [("have", 7, ((7, 1), (30, 1)))])
        two = slow_record(2, "came 30 1 9 7:1 add stock 'x' 3")
        self.assertEqual(disk.texts(), (first + one + two, ""))
        state = read_state(S, "7:1,9:2 4 ; rule r 4 9 'near(?0, ?1) if link(?0, ?1)'")
        self.assertEqual(house.hear(("state", 9, state)), [("have", 7, ((7, 1), (9, 2), (30, 1)))])
        three = slow_record(3, "state 7:1,9:2 4 ; rule r 4 9 'near(?0, ?1) if link(?0, ?1)'")
        self.assertEqual(disk.texts(), (first + one + two + three, ""))
        self.assertEqual((house.gone(), house.kept()), (((7, 1), (9, 2)), [edit]))
        self.assertIsNone(house.forget(((30, 1),)))
        four = slow_record(4, "gone 30:1")
        self.assertEqual(disk.texts(), (first + one + two + three + four, ""))
        self.assertEqual(disk.open_deeds(), ((four,), ()))
        self.assertEqual((house.gone(), house.kept()), (((7, 1), (9, 2), (30, 1)), []))
        house.forget(())
        five = slow_record(5, "gone -")
        self.assertEqual(disk.texts(), (first + one + two + three + four + five, ""))
        house.write(((7, 1),), ("unrule", "r"))
        text = house_text(house)
        self.assertEqual(text, pieces(["7", state_text(house.state()), "7:1,9:2,30:1", "7 2 10 7:1,9:2,30:1 unrule r"]))
        self.assertIsNone(house.turn())
        self.assertEqual(disk.texts()[1], slow_record(2, "first " + text))
        self.assertEqual(disk.open_deeds(), ((), ()))
        self.assertEqual(told_by(house_at(S, P, disk)), told_by(house))

    def test_kept_edits_ascending(self):
        house, disk = fresh(10)
        for life in (100, 9, 20):
            house.hear(("edits", life, (), ((life, 1, 1, (), BRING),)))
        for _ in range(11):
            house.write((), BRING)
        self.assertEqual([edit[:2] for edit in house.kept()], [(9, 1), *[(10, n) for n in range(1, 12)], (20, 1),
                                                               (100, 1)])
        self.assertEqual(house_text(house),
                         pieces(["10", state_text(house.state()), "-", *[edit_text(edit) for edit in house.kept()]]))

    def test_letters_that_change_nothing_leave_no_entry(self):
        house, disk = fresh()
        house.write((), BRING)
        texts = disk.texts()
        edit = (9, 2, 5, ((9, 1),), BRING)
        for letter in (("have", 9, ()), ("have", 9, ((7, 1),)), ("have", 9, ((9, 9),)),
                       ("edits", 9, (), ((7, 1, 1, (), BRING),)), ("edits", 9, (), (edit,)),
                       ("root", 9, ((7, 1),), 5), ("root", 9, (), 5)):
            house.hear(letter)
        self.assertEqual(disk.texts(), texts)
        house.ask((), ("link", (None, None))), house.have(), house.rows("link"), house.looks(), house_text(house), told_by(house)
        self.assertEqual(disk.texts(), texts)

    def test_made_sure_ahead_of_what_tells_a_mark(self):
        def calls(house):
            return [lambda: house.write((), BRING), lambda: house.ask((), ("link", (None, None))), house.have,
                    lambda: house.hear(("have", 9, ())),
                    lambda: house.hear(("edits", 9, (), ((9, 1, 1, (), BRING),)))]
        for at in range(5):
            house, disk = fresh()
            house.write((), BRING)
            house.forget(((7, 1),))
            self.assertEqual(disk.open_deeds()[0], (record(2, "gone 7:1"),))
            calls(house)[at]()
            self.assertEqual(disk.open_deeds(), ((), ()))
        # A state by which no mark grew is entered, and tells nothing.
        house, disk = fresh()
        house.write((), BRING)
        self.assertEqual(house.hear(("state", 9, house.state())), [])
        self.assertEqual(disk.open_deeds()[0], (record(2, f"state {state_text(house.state())}"),))
        self.assertEqual(house.gone(), ((7, 1),))

    def test_a_write_is_sure_ahead_of_being_done(self):
        house, disk = fresh()
        house.write((), BRING)
        house.fall((NOTHING, NOTHING))
        self.assertEqual(house_at(S, P, disk).stands(), ((7, 1),))

    def test_new_generations_begin_with_what_there_is_ahead_of_the_entry(self):
        house, disk = fresh(room=500)
        for at in range(30):
            area = 0 if disk.texts()[0].startswith(f"{Store(disk).generation()} ") else 1
            before = house_text(house)
            text = f"mine {edit_text(next_edit(house.state(), 7, BRING))}"
            full = len(disk.texts()[area]) + len(record(len(Store(disk).entries()) + 1, text)) > 500
            try:
                house.write((), BRING)
            except TooSmall:
                break
            if full:
                self.assertEqual(Store(disk).first(), before)
                self.assertEqual(Store(disk).entries(), [text])
                self.assertEqual(disk.texts()[1 - area], slow_record(Store(disk).generation(),
                                                                     f"first {before}") + slow_record(1, text))
            self.assertEqual(told_by(house_at(S, P, disk.copy())), told_by(house))
        self.assertGreater(Store(disk).generation(), 1)


class Opened(unittest.TestCase):
    def opened(self, *bodies, life=7, index=None, schema=S):
        """Opens a store with a first body and entries, on the disk of which nothing changes."""
        disk = Disk(3, 20000)
        store = begun(disk, bodies[0])
        for body in bodies[1:]:
            store.add(body, None)
        store.sure()
        texts = disk.texts()
        if index is None:
            house = house_at(schema, P, disk)
            self.assertEqual((disk.texts(), disk.open_deeds()), (texts, ((), (), ())))
            return house
        self.assertEqual(field(self, BadStore, house_at, schema, P, disk), {"index": index})
        self.assertEqual((disk.texts(), disk.open_deeds()), (texts, ((), (), ())))
        return None

    EDIT = "7 1 1 - bring link 'a','b'"
    STATE = "7:2,8:1 3 ; bag link 'a','b' 7:1,8:1"
    SEVEN = "7 2 3 7:1,8:1 unrule a"
    EIGHT = "8 1 2 7:1 bring link 'a','b'"

    def test_good_first_bodies(self):
        for life in (1, 7, 999):
            house = self.opened(pieces([str(life), self.STATE, "-", self.EDIT, self.SEVEN, self.EIGHT]))
            self.assertEqual((house.life(), house.stands(), house.gone()), (life, ((7, 2), (8, 1)), ()))
            self.assertEqual([edit[:2] for edit in house.kept()], [(7, 1), (7, 2), (8, 1)])
            self.assertEqual(state_text(house.state()), self.STATE)
        house = self.opened(pieces(["7", self.STATE, "7:1", self.SEVEN, self.EIGHT]))
        self.assertEqual((house.gone(), [edit[:2] for edit in house.kept()]), (((7, 1),), [(7, 2), (8, 1)]))
        house = self.opened(pieces(["7", self.STATE, "7:2,8:1"]))
        self.assertEqual((house.gone(), house.kept(), house.aside(), house.faults(), house.looks()),
                         (((7, 2), (8, 1)), [], [], [], 0))
        self.assertEqual(house.write(((8, 1),), BRING), (3, ((7, 3), (8, 1))))

    def test_bad_first_bodies(self):
        good = ["7", self.STATE, "-", self.EDIT, self.SEVEN, self.EIGHT]
        self.opened(pieces(good))
        for at, others in ((0, ["0", "1000", "07", "-7", "+7", "", " 7", "7 ", "a", "9" * 5000, "7:1"]),
                           (1, ["", "- 0", self.STATE + " ", self.STATE.replace("3", "2", 1)[:3], "7:2,8:1", "7:2 3",
                                "9:1 1", self.STATE.replace("7:1,8:1", "8:1,7:1")]),
                           (2, ["", "7:3", "9:1", "7:1,8:2", "8:1,7:1", "7:01", "7:0", "7:1,", "- ", "7"]),
                           (3, ["", self.EDIT + " ", self.SEVEN, self.EIGHT, "7 3 4 7:2 unrule a", "9 1 1 - unrule a",
                                "7 1 1 - bring link 'a'", "x"]),
                           (5, ["8 2 3 8:1 unrule a", self.SEVEN, self.EDIT, "7 2 9 7:1 unrule b"])):
            for other in others:
                self.opened(pieces([*good[:at], other, *good[at + 1:]]), index=-1)
        for wrong in (good[:2], good[:1], [], [*good[:3], self.SEVEN, self.EDIT, self.EIGHT],
                      [*good[:4], self.EDIT, *good[4:]], ["7", self.STATE, "7:1", self.EDIT, self.SEVEN],
                      ["7", self.STATE, "7:2,8:1", self.EIGHT], [*good, ""]):
            self.opened(pieces(wrong), index=-1)
        text = pieces(good)
        for wrong in ("", "x", text + "x", text[:-1], "0" + text, text.replace("1:7", "01:7", 1),
                      text.replace("1:7", "2:7", 1), " " + text, text[1:], text + "0", text + "0:",
                      text + "1:", "9" * 30 + ":", "9" * 5000 + ":"):
            self.opened(wrong, index=-1)

    def test_bodies_one_sign_off(self):
        text = pieces(["7", self.STATE, "7:1", self.SEVEN, self.EIGHT])
        told = 0
        for at in range(len(text)):
            for wrong in (text[:at] + text[at + 1:], text[:at] + "1" + text[at + 1:], text[:at] + "9" + text[at:],
                          text[:at] + "'" + text[at + 1:]):
                disk = Disk(2, 20000)
                begun(disk, wrong)
                try:
                    house = house_at(S, P, disk)
                except BadStore as error:
                    self.assertEqual(error.index, -1)
                else:
                    self.assertEqual(house_text(house), wrong)
                    told += 1
        self.assertGreater(told, 10)

    def test_entries(self):
        first = pieces(["7", "- 0", "-"])
        good = [f"mine {self.EDIT}", f"came {self.EIGHT}", f"mine {self.SEVEN}", "gone 7:1", f"state {self.STATE}",
                "came 30 1 1 - unrule b", "gone -", "gone 8:1,30:1"]
        house = self.opened(first, *good)
        self.assertEqual((house.stands(), house.gone()), (((7, 2), (8, 1), (30, 1)), ((7, 2), (8, 1), (30, 1))))
        for many in range(len(good) + 1):
            house = self.opened(first, *good[:many])
            self.assertEqual(house.stands(), ((), ((7, 1),), ((7, 1), (8, 1)))[many] if many < 3
                             else (((7, 2), (8, 1)) if many < 6 else ((7, 2), (8, 1), (30, 1))))
        for many in (0, 1, 3, 6):
            ahead = good[:many]
            for bad in ("", "mine", "came", "mine ", "came ", "state", "gone", "gone ", "state ", "x", "mine x",
                        "gone 99:1", "gone 7:99", "gone 8:2", "gone 7", "gone 07:1", "gone  -", "gone - ",
                        "state x", "state 1:1 0", "Mine " + self.EDIT, "mine  " + self.EDIT, f"mine {self.EDIT} ",
                        "mine 8 9 9 8:8 unrule a", "came 7 1 1 - unrule a", "came 7 9 9 7:8 unrule a",
                        "came 9 2 2 9:1 unrule a", "came 9 1 2 30:7 unrule a", "mine 7 9 9 7:8 unrule a", "first x",
                        "kept 7:1", "mine 9 1 1 - unrule a", "came 8 1 1 - bring link 'a'",
                        "state - 0 ; x", " mine " + self.EDIT, "gone 7:1,", "lost 7:1"):
                self.opened(first, *ahead, bad, index=many)
                self.opened(first, *ahead, bad, "x", index=many)
        # What stands already is not the next one.
        self.opened(first, good[0], good[0], index=1)
        self.opened(first, good[0], good[1], good[1], index=2)
        self.opened(first, good[1], index=0)
        self.opened(first, good[0], "mine 7 2 3 7:1,8:1 unrule a", index=1)
        self.opened(first, good[0], "mine 7 3 3 7:2 unrule a", index=1)
        self.opened(first, good[0], good[4], good[2], index=2)

    def test_a_state_of_another_schema(self):
        self.opened(pieces(["7", "- 0", "-"]), "state 1:1 1 ; bag link 'a','b' 1:1", index=None)
        self.opened(pieces(["7", "- 0", "-"]), "state 1:1 1 ; bag link 'a','b' 1:1", schema=OTHER)
        self.opened(pieces(["7", "- 0", "-"]), "state 1:1 1 ; sum stock 'a' 1 1", schema=OTHER, index=0)
        self.opened(pieces(["7", self.STATE, "7:2,8:1"]), schema=(("name", "bag", ("word",)),), index=-1)

    def test_errors(self):
        disk = Disk(2, 200)
        for thing in odd_things():
            if thing != S:
                self.assertRaises(NoSchema, house_at, thing, None, None)
                self.assertRaises(NoSchema, House, 7, thing, None, None)
            if type(thing) is not int or thing not in (1,):
                self.assertRaises(NoLife, House, thing, None, None, None)
            self.assertRaises(NoStore, house_at, S, P, thing)
        for thing in not_primes():
            self.assertRaises(NoPrime, house_at, S, thing, None)
            self.assertRaises(NoPrime, House, 7, S, thing, None)
        for life in (0, -1, 1000, True, None, "7", 10 ** 39, (7,)):
            self.assertRaises(NoLife, House, life, S, P, disk)
        self.assertRaises(NoStore, house_at, S, P, disk)
        self.assertEqual(disk.texts(), ("", ""))
        for text in ("x", record(1, "firs x"), record(2, "a")):
            disk = Disk(2, 200)
            disk.put(1, text)
            self.assertRaises(NoStore, house_at, S, P, disk)

    def test_a_house_that_begins_on_a_used_disk(self):
        house, disk = fresh()
        house.write((), BRING)
        other = House(8, S, P, disk)
        self.assertEqual(disk.texts(), (slow_record(1, "first 1:83:- 01:-"), ""))
        self.assertEqual(other.stands(), ())


class Writing(unittest.TestCase):
    def test_pairs_and_tokens(self):
        house, _ = fresh()
        self.assertEqual(house.write((), BRING), (1, ((7, 1),)))
        self.assertEqual(house.write(((7, 1),), ("put", "name", ("k", "v"))), (2, ((7, 2),)))
        house.hear(("edits", 9, (), ((9, 1, 1, (), BRING),)))
        self.assertEqual(house.write(((7, 1), (9, 1)), ("take", "name", ("k",))), (3, ((7, 3), (9, 1))))
        self.assertEqual(house.kept()[2], (7, 3, 3, ((7, 2), (9, 1)), ("take", "name", ("k",))))
        for token, lacking in ((((7, 4),), ((7, 4, 4),)), (((7, 9), (8, 2)), ((7, 4, 9), (8, 1, 2))),
                               (((1, 10 ** 39),), ((1, 1, 10 ** 39),)), (((9, 2),), ((9, 2, 2),))):
            for deed in (BRING, None):
                self.assertEqual(field(self, NotYet, house.write, token, deed), {"lacking": lacking})
                self.assertEqual(field(self, NotYet, house.ask, token, None), {"lacking": lacking})
        self.assertEqual(house.stands(), ((7, 3), (9, 1)))

    def test_errors(self):
        house, disk = fresh()
        house.write((), BRING)
        kept = (told_by(house), disk.texts(), house.looks())
        for thing in [*odd_things(), ((1, 0),), ((2, 1), (1, 1)), ((0, 1),), [(7, 1)], ((7, True),)]:
            if thing != ():
                self.assertRaises(NoMark, house.write, thing, None)
                self.assertRaises(NoMark, house.ask, thing, None)
            if not (type(thing) is tuple and thing[:1] == ("unrule",) and thing[1:] in (("a",), ("link",), ("rule",))):
                self.assertRaises(NoDeed, house.write, (), thing)
            if not is_pattern(thing):
                self.assertRaises(NoPattern, house.ask, (), thing)
        for deed in (("put", "link", ("a", "b")), ("bring", "link", ("a",)), ("add", "stock", ("x",), 0),
                     ("rule", "r", rule("link", [v(0)], ("is", "near", (v(0),))))):
            self.assertRaises(NoDeed, house.write, ((7, 1),), deed)
        self.assertEqual((told_by(house), disk.texts(), house.looks()), kept)

    def test_answers(self):
        house, _ = fresh()
        for deed in (BRING, ("bring", "link", ("b", "c")), ("rule", "one", NEAR), ("rule", "two", FAR),
                     ("rule", "bad", rule("u", [v(0)], ("less", v(0), 1)))):
            house.write((), deed)
        for question in (("near", ("a", None)), ("link", (None, None)), ("u", (None,)), ("none", (1,)),
                         ("rule", (None, None))):
            told = house.ask(house.stands(), question)
            self.assertEqual(told, answer_of(P, house.state(), (), question))
            self.assertEqual(told[0], house.stands())
            self.assertTrue(judge(S, P, house.root(), question, told))
        self.assertEqual(house.ask((), ("near", ("a", None)))[1], (("a", "b"), ("a", "c")))
        self.assertEqual(house.ask((), ("u", (None,)))[1], ("unsafe", "bad"))

    def test_too_small(self):
        turns = 0
        for room in range(260, 900, 40):
            house, disk = fresh(room=room)
            deeds = [("put", "name", (f"k{at:02}", "v" * 20)) for at in range(40)]
            for deed in deeds:
                kept = (told_by(house), disk.texts(), house_text(house))
                try:
                    house.write((), deed)
                except TooSmall:
                    break
            self.assertEqual((told_by(house), disk.texts(), house_text(house)), kept)
            self.assertRaises(NoDeed, house.write, (), None)
            self.assertRaises(TooSmall, house.hear,
                              ("edits", 9, (), ((9, 1, 1, (), ("put", "name", ("v" * 20, "v" * 20))),)))
            self.assertRaises(TooSmall, house.hear, ("state", 9, read_state(S, "9:1 1 ; sum stock 'x' 9 " + "9" * 200)))
            if len(record(Store(disk).generation() + 1, f"first {house_text(house)}")) > room:
                self.assertRaises(TooSmall, house.turn)
                turns += 1
            self.assertEqual((told_by(house), disk.texts(), house_text(house)), kept)
            self.assertEqual(told_by(house_at(S, P, disk)), told_by(house))
        self.assertGreater(turns, 3)
        self.assertRaises(TooSmall, House(7, S, P, Disk(2, 200)).write, (),
                          ("rule", "r", rule("x", ["x" * 20] * 5, *[("same", "x" * 20, "y" * 20)] * 4)))

    def test_an_own_edit_for_which_one_aside_waited(self):
        house, disk = fresh()
        edit = (9, 1, 5, ((7, 1),), BRING)
        self.assertEqual(house.hear(("edits", 9, (), (edit,))), [])
        self.assertEqual(house.aside(), [edit])
        self.assertEqual(house.write((), BRING), (1, ((7, 1), (9, 1))))
        self.assertEqual((house.aside(), disk.open_deeds()), ([], ((), ())))
        self.assertEqual(told_by(house_at(S, P, disk)), told_by(house))


def chain(life, many, height=1, deed=BRING):
    """The first edits of a life that hears of nobody."""
    return [(life, n, height + n - 1, ((life, n - 1),) if n > 1 else (), deed) for n in range(1, many + 1)]


class Hearing(unittest.TestCase):
    def test_edits_in_every_order(self):
        edits = [*chain(8, 3), (9, 1, 4, ((8, 2),), ("drop", "link", ("a", "b"))),
                 (9, 2, 5, ((8, 3), (9, 1)), ("add", "stock", ("x",), 1))]
        for chance in chances(40):
            house, disk = fresh()
            left = edits * 2
            chance.shuffle(left)
            came = []
            while left:
                some = tuple(left[:chance.randrange(1, 4)])
                left = left[len(some):]
                came += some
                before = house.stands()
                told = house.hear(("edits", 9, (), some))
                done = closed_under(came)
                self.assertEqual(house.state(), state_from(by_rank(done)))
                self.assertEqual(house.aside(), sorted({edit for edit in came if edit not in done},
                                                       key=lambda edit: edit[:2]))
                self.assertEqual(told, [("have", 7, house.stands())] if house.stands() != before else [])
            self.assertEqual((house.aside(), house.state()), ([], state_from(edits)))
            self.assertEqual(told_by(house_at(S, P, disk)), told_by(house))

    def test_edits_of_its_own_life_that_come(self):
        """However they came about: the house stands on its disk with them."""
        house, disk = fresh()
        self.assertEqual(house.hear(("edits", 9, (), tuple(chain(7, 2)))), [("have", 7, ((7, 2),))])
        self.assertEqual(told_by(house_at(S, P, disk)), told_by(house))
        self.assertEqual(house.write((), BRING), (3, ((7, 3),)))
        self.assertEqual(house.hear(("edits", 9, (), tuple(chain(7, 3)))), [])
        self.assertEqual(told_by(house_at(S, P, disk)), told_by(house))

    def test_the_least_aside_first(self):
        house, disk = fresh()
        waiting = [(9, 1, 9, ((8, 1),), BRING), (20, 1, 3, ((8, 1),), BRING), (10, 1, 3, ((8, 1),), BRING),
                   (30, 1, 4, ((10, 1),), BRING), (5, 1, 12, ((9, 1),), BRING)]
        house.hear(("edits", 9, (), tuple(waiting)))
        self.assertEqual(house.aside(), sorted(waiting, key=lambda edit: edit[:2]))
        house.hear(("edits", 8, (), ((8, 1, 1, (), BRING), (8, 2, 2, ((8, 1),), BRING))))
        self.assertEqual([entry.split()[1] for entry in Store(disk).entries()], ["8", "10", "20", "30", "9", "5", "8"])
        self.assertEqual(house.aside(), [])

    def test_more_than_a_hundred_aside(self):
        house, _ = fresh()
        edits = chain(8, 102, 5)[1:] + [(9, 2, 10, ((9, 1),), BRING), (9, 3, 300, ((9, 2),), BRING)]
        for at in range(0, len(edits), 20):
            house.hear(("edits", 8, (), tuple(edits[at:at + 20])))
        # The greatest by height, life and number fell away, whenever it came.
        wanted = by_rank(edits)[:100]
        self.assertEqual(house.aside(), sorted(wanted, key=lambda edit: edit[:2]))
        self.assertNotIn((8, 101, 105, ((8, 100),), BRING), house.aside())
        self.assertIn((9, 2, 10, ((9, 1),), BRING), house.aside())
        house.hear(("edits", 8, (), ((9, 4, 105, ((9, 3),), BRING), (8, 100, 104, ((8, 99),), BRING))))
        self.assertEqual(len(house.aside()), 100)
        house.hear(("edits", 8, (), ((8, 1, 5, (), BRING),)))
        self.assertEqual(house.stands(), ((8, 100),))
        self.assertEqual([edit[:2] for edit in house.aside()], [(9, 2)])

    def test_heights_then_lives_then_numbers(self):
        house, _ = fresh()
        edits = [(life, 2, 9, ((life, 1),), BRING) for life in range(100, 200)]
        for at in range(0, 100, 20):
            house.hear(("edits", 8, (), tuple(edits[at:at + 20])))
        house.hear(("edits", 8, (), ((50, 2, 9, ((50, 1),), BRING),)))
        self.assertEqual([edit[0] for edit in house.aside()], [50, *range(100, 199)])
        house.hear(("edits", 8, (), ((300, 2, 9, ((300, 1),), BRING), (301, 2, 8, ((301, 1),), BRING))))
        self.assertEqual([edit[0] for edit in house.aside()], [50, *range(100, 198), 301])

    def test_answers_to_have(self):
        house, _ = fresh()
        for edit in chain(8, 30):
            house.hear(("edits", 8, (), (edit,)))
        house.write((), ("unrule", "x"))
        own = house.kept()[0]
        mark = ((7, 1), (8, 30))
        for theirs, wanted in (((), [("edits", 7, mark, tuple(chain(8, 20)))]),
                               (((8, 5),), [("edits", 7, mark, tuple(chain(8, 25)[5:]))]),
                               (((8, 15),), [("edits", 7, mark, (*chain(8, 30)[15:], own))]),
                               (((8, 30),), [("edits", 7, mark, (own,))]),
                               (((7, 1),), [("edits", 7, mark, tuple(chain(8, 20)))]),
                               (mark, [("root", 7, mark, house.root())]),
                               (((7, 1), (8, 31)), [("have", 7, mark)]),
                               (((7, 1), (8, 30), (9, 1)), [("have", 7, mark)]),
                               (((8, 31),), [("edits", 7, mark, (own,))]),
                               (((5, 9), (7, 1)), [("edits", 7, mark, tuple(chain(8, 20)))])):
            self.assertEqual(house.hear(("have", 9, theirs)), wanted)
        house.forget(((8, 10),))
        for theirs, wanted in (((), "state"), (((8, 9),), "state"), (((7, 1), (8, 9)), "state"), (((8, 10),), "edits"),
                               (mark, "root"), (((7, 1), (8, 31)), "have")):
            told = house.hear(("have", 9, theirs))
            self.assertEqual([letter[0] for letter in told], [wanted])
            if wanted == "state":
                self.assertEqual(told, [("state", 7, house.state())])
            if wanted == "edits":
                self.assertEqual(told, [("edits", 7, mark, tuple(chain(8, 30)[10:]))])

    def test_twenty_by_height_then_life_then_number(self):
        house, _ = fresh()
        edits = [*chain(20, 12, 3), *chain(5, 12, 8), (6, 1, 8, (), BRING), (4, 1, 40, (), BRING)]
        for edit in edits:
            house.hear(("edits", 8, (), (edit,)))
        told = house.hear(("have", 8, ()))[0]
        self.assertEqual(told, ("edits", 7, house.stands(), tuple(by_rank(edits)[:20])))
        self.assertEqual([edit[:2] for edit in told[3]][5:8], [(5, 1), (6, 1), (20, 6)])

    def test_states(self):
        house, _ = fresh()
        house.write((), ("put", "name", ("k", "v")))
        house.hear(("edits", 9, (), ((9, 3, 9, ((9, 2),), BRING), (30, 1, 5, ((8, 4),), BRING),
                                     (9, 2, 4, ((9, 1),), BRING))))
        other = State(S)
        for edit in [*chain(8, 3), *chain(9, 2)]:
            other = with_edit(other, edit)
        before = house.state()
        self.assertEqual(house.hear(("state", 8, other)), [("have", 7, ((7, 1), (8, 3), (9, 3)))])
        self.assertEqual(house.gone(), ((8, 3), (9, 2)))
        self.assertEqual([edit[:2] for edit in house.kept()], [(7, 1), (9, 3)])
        self.assertEqual([edit[:2] for edit in house.aside()], [(30, 1)])
        self.assertEqual(house.state(), with_edit(joined(before, other), (9, 3, 9, ((9, 2),), BRING)))
        # An elder one changes nothing, but gone.
        self.assertEqual(house.hear(("state", 8, before)), [])
        self.assertEqual((house.gone(), [edit[:2] for edit in house.kept()]), (((7, 1), (8, 3), (9, 2)), [(9, 3)]))
        self.assertEqual(house.hear(("state", 8, State(S))), [])

    def test_faults(self):
        house, _ = fresh()
        house.write((), BRING)
        mark, root = house.stands(), house.root()
        for letter in (("root", 9, mark, root), ("root", 9, (), 5), ("root", 9, ((7, 2),), 5),
                       ("root", 9, ((7, 1), (8, 1)), root + 1)):
            self.assertEqual(house.hear(letter), [])
        self.assertEqual(house.faults(), [])
        for letter in (("root", 9, mark, root + 1), ("root", 8, mark, 0), ("root", 9, mark, root + 1),
                       ("root", 9, mark, 10 ** 39)):
            self.assertEqual(house.hear(letter), [])
        self.assertEqual(house.faults(), [(9, mark, root + 1), (8, mark, 0), (9, mark, root + 1), (9, mark, 10 ** 39)])
        house.write((), BRING)
        house.hear(("root", 9, mark, 5))
        self.assertEqual(len(house.faults()), 4)

    def test_bent_states_are_found(self):
        """Whoever hands in a state bent to other rows or rules finds it told."""
        edit = (9, 1, 1, (), BRING)
        for bent in ("9:1 1 ; bag link 'a','c' 9:1", "9:1 1", "9:1 1 ; rule r 1 9 'near(1) if 1 = 1'",
                     "9:1 1 ; sum stock 'x' 9 1 ; bag link 'a','b' 9:1"):
            one, other = fresh()[0], fresh(8)[0]
            one.hear(("edits", 9, (), (edit,)))
            other.hear(("state", 9, read_state(S, bent)))
            self.assertEqual(one.stands(), other.stands())
            for letter in one.hear(other.have()):
                other.hear(letter)
            for letter in other.hear(one.have()):
                one.hear(letter)
            self.assertEqual(one.faults(), [(8, one.stands(), other.root())])
            self.assertEqual(other.faults(), [(7, one.stands(), one.root())])

    def test_no_letters(self):
        house, disk = fresh()
        house.write((), BRING)
        edit, state = (9, 1, 1, (), BRING), State(S)
        kept = (told_by(house), disk.texts(), disk.open_deeds())
        bad = [None, (), ("have",), ("have", 9), ("have", 9, (), ()), ["have", 9, ()], ("have", 0, ()),
               ("have", 1000, ()), ("have", True, ()), ("have", "9", ()),
               ("have", 9, None), ("have", 9, [(8, 1)]), ("have", 9, ((8, 0),)), ("have", 9, ((8, 1), (7, 1))),
               ("Have", 9, ()), ("", 9, ()), (None, 9, ()), ("have", 7, ()),
               ("edits", 7, (), (edit,)), ("state", 7, state), ("root", 7, (), 5), ("edits", 9, ()),
               ("edits", 9, (), ()), ("edits", 9, (), [edit]), ("edits", 9, (), edit),
               ("edits", 9, (), (edit,) * 21), ("edits", 9, None, (edit,)), ("edits", 9, (), (edit, None)),
               ("edits", 9, (), ((9, 1, 1, (), None),)),
               ("edits", 9, (), ((9, 2, 2, (), BRING),)), ("edits", 9, (), (list(edit),)),
               ("edits", 9, (), (edit,), ()), ("state", 9, State(OTHER)), ("state", 9, None),
               ("state", 9, (), state), ("state", 9, state, ()), ("state", 9, "- 0"), ("state", 0, state),
               ("root", 9, ()), ("root", 9, (), -1), ("root", 9, (), None),
               ("root", 9, (), True), ("root", 9, (), "5"), ("root", 9, None, 5), ("root", 9, (), 5, 5),
               ("edits", 1000, (), (edit,)), ("root", 9.0, (), 5), ("Root", 9, (), 5), ("have", 9, (), 5),
               ("state", 9, (), 5),
               ("have", 9, (), (edit,)), ("", 9, (), 5)]
        for thing in odd_things():
            bad += [thing, (thing, 9, ()), ("have", thing if thing != 1 or thing is True else 0, ()),
                    ("have", 9, thing if thing != () else None), ("edits", 9, (), thing), ("edits", 9, (), (thing,)),
                    ("edits", 9, thing if thing != () else None, (edit,)),
                    ("state", 9, thing if not isinstance(thing, State) else None),
                    ("root", 9, (), thing if type(thing) is not int or thing < 0 else None),
                    ("edits", 9, (), ((9, 1, 1, (thing, 1), BRING),)), (thing, 9, (), (edit,))]
        for letter in bad:
            with self.assertRaises(NoLetter, msg=repr(letter)[:300]):
                house.hear(letter)
        self.assertEqual((told_by(house), disk.texts(), disk.open_deeds()), kept)
        house.hear(("edits", 9, (), tuple(chain(9, 20))))
        self.assertEqual(house.stands(), ((7, 1), (9, 20)))

    def test_too_small_in_the_midst(self):
        """What was done ahead stays done, and nothing else is changed."""
        deeds = [("put", "name", (f"k{n:02}", "v" * 20)) for n in range(30)]
        edits = [(9, n, n, ((9, n - 1),) if n > 1 else (), deed) for n, deed in enumerate(deeds, 1)]
        for room in (400, 700, 1100):
            house, disk = fresh(room=room)
            self.assertRaises(TooSmall, house.hear, ("edits", 9, (), tuple(edits[:20])))
            many = house.stands()[0][1]
            self.assertTrue(0 < many < 20)
            self.assertEqual((house.state(), house.aside()), (state_from(edits[:many]), []))
            self.assertEqual(house.rows("name"), tuple(deed[2] for deed in deeds[:many]))
            self.assertRaises(TooSmall, house.hear, ("edits", 9, (), tuple(edits[many:many + 1])))
            self.assertEqual(house.stands(), ((9, many),))
            # Where it stands is told, so no fall may lose it.
            self.assertEqual(disk.open_deeds(), ((), ()))
            self.assertEqual(house_at(S, P, disk.copy()).stands(), ((9, many),))
            self.assertEqual(house.have(), ("have", 7, ((9, many),)))
            self.assertEqual(told_by(house_at(S, P, disk)), told_by(house))
        # One that was aside already stays there.
        house, disk = fresh(room=400)
        house.hear(("edits", 9, (), tuple(edits[1:20])))
        self.assertRaises(TooSmall, house.hear, ("edits", 9, (), tuple(edits[:1])))
        many = house.stands()[0][1]
        self.assertEqual((house.state(), house.aside()), (state_from(edits[:many]), edits[many:20]))


def closed_under(edits):
    """Those of the edits that can be done, one behind another."""
    told, mark, grown = [], (), True
    while grown:
        grown = False
        for edit in edits:
            if edit not in told and holds(mark, edit[3]) and not saw(mark, edit[0], edit[1]):
                told.append(edit)
                mark = both(mark, ((edit[0], edit[1]),))
                grown = True
    return told


class Forgetting(unittest.TestCase):
    def test_gone_and_kept(self):
        house, _ = fresh()
        for edit in chain(8, 4):
            house.hear(("edits", 8, (), (edit,)))
        house.write((), BRING)
        for mark, gone, kept in (((), (), [(7, 1), (8, 1), (8, 2), (8, 3), (8, 4)]),
                                 (((8, 2),), ((8, 2),), [(7, 1), (8, 3), (8, 4)]),
                                 (((8, 1),), ((8, 2),), [(7, 1), (8, 3), (8, 4)]),
                                 (((7, 1),), ((7, 1), (8, 2)), [(8, 3), (8, 4)]),
                                 (((7, 1), (8, 4)), ((7, 1), (8, 4)), [])):
            house.forget(mark)
            self.assertEqual((house.gone(), [edit[:2] for edit in house.kept()]), (gone, kept))

    def test_no_mark(self):
        house, disk = fresh()
        house.write((), BRING)
        kept = (told_by(house), disk.texts())
        for thing in [*odd_things(), ((7, 2),), ((8, 1),), ((7, 1), (8, 1)), [(7, 1)], ((7, 0),), ((7, True),),
                      ((7, 10 ** 39),), None, ((8, 1), (7, 1))]:
            if thing != ():
                self.assertRaises(NoMark, house.forget, thing)
        self.assertEqual((told_by(house), disk.texts()), kept)

    def test_too_small(self):
        house, disk = fresh(room=300)
        edits = chain(8, 30)
        with self.assertRaises(TooSmall):
            for edit in edits:
                house.hear(("edits", 8, (), (edit,)))
        with self.assertRaises(TooSmall):
            for _ in range(30):
                kept = (told_by(house), disk.texts())
                house.forget(((8, 1),))
        self.assertEqual((told_by(house), disk.texts()), kept)

    def test_the_fact_of_forgetting(self):
        """States, answers and roots are as if nothing had been forgotten."""
        for chance in chances(25):
            houses = [fresh(life, room=200000)[0] for life in (1, 2, 3)]
            others = [fresh(life, room=200000)[0] for life in (1, 2, 3)]
            for _ in range(40):
                at = chance.randrange(3)
                if chance.random() < 0.6:
                    deed = random_deed(chance)
                    self.assertEqual(houses[at].write((), deed), others[at].write((), deed))
                else:
                    to = (at + chance.randrange(1, 3)) % 3
                    for lot in (houses, others):
                        exchange(lot[at], lot[to])
                if chance.random() < 0.4:
                    mark = houses[at].stands()
                    houses[at].forget(tuple(pair for pair in mark if chance.random() < 0.7))
                for one, other in zip(houses, others):
                    self.assertEqual((one.stands(), one.state(), one.root()),
                                     (other.stands(), other.state(), other.root()))
                    question = ("near", (None, chance.choice("abc")))
                    self.assertEqual(one.ask((), question), other.ask((), question))
                    self.assertEqual((one.rows("near"), one.faults()), (other.rows("near"), []))


def exchange(one, other):
    """Lets two houses hear of one another until all is quiet between them."""
    waiting = [(other, one, one.have()), (one, other, other.have())]
    while waiting:
        to, by, letter = waiting.pop(0)
        waiting += [(by, to, answer) for answer in to.hear(letter)]


class Views(unittest.TestCase):
    def compare(self, house):
        book, rows = titles(house.state()), tables(house.state())
        meant = meaning(S, book, rows)
        for name in ("link", "name", "stock", "near", "x", "y", "rule", "none"):
            why = bar(S, book, name)
            if why is None:
                self.assertEqual(house.rows(name), rows.get(name, meant.get(name, ())))
            else:
                self.assertEqual(field(self, Barred, house.rows, name), {"bar": why})

    def test_rows_and_looks(self):
        """Rows are the meaning anew, and looks keep the bound of point 4.2."""
        grown = 0
        for chance in chances(25):
            house, disk = fresh(room=200000)
            other, _ = fresh(8, room=200000)
            self.assertEqual(house.looks(), 0)
            for _ in range(30):
                looks, book, rows = house.looks(), titles(house.state()), tables(house.state())
                deed = chance.choice([random_deed(chance), ("bring", "link",
                                                            (chance.choice("abcd"), chance.choice("abcd")))])
                word = chance.choice(["write"] * 5 + ["hear", "ask", "open", "state", "forget"])
                if word == "write":
                    house.write((), deed)
                if word == "hear":
                    other.write((), deed)
                    house.hear(("edits", 8, (), tuple(other.kept()[-1:])))
                if word == "state":
                    exchange(house, other)
                if word == "ask":
                    house.ask((), ("near", (None, None)))
                if word == "forget":
                    other.forget(other.stands())
                if word == "open":
                    house.fall((NOTHING, NOTHING))
                    house = house_at(S, P, disk)
                    self.assertEqual(house.looks(), 0)
                    looks = 0
                self.compare(house)
                if titles(house.state()) == book:
                    behind = tables(house.state())
                    gone = [(name, row) for name in rows for row in rows[name] if row not in behind[name]]
                    come = [(name, row) for name in rows for row in behind[name] if row not in rows[name]]
                    self.assertLessEqual(house.looks() - looks, 20 * (1 + sum(near(S, book, rows, gone, come))))
                    if word != "open":
                        self.assertGreaterEqual(house.looks() - looks, len(gone) + len(come))
                        grown += house.looks() > looks
        self.assertGreater(grown, 100)

    def test_each_call_leads_the_view_on(self):
        """Also where the next one undoes what it did."""
        house, _ = fresh()
        for drop in (lambda: house.write((), ("drop", "link", ("a", "b"))),
                     lambda: house.hear(("edits", 9, (), ((9, 1, 50, house.stands(), ("drop", "link", ("a", "b"))),)))):
            looks = house.looks()
            house.write((), BRING)
            drop()
            self.assertEqual(house.rows("link"), ())
            self.assertGreaterEqual(house.looks() - looks, 2)

    def test_looks_behind_a_letter_for_which_there_was_no_room(self):
        house, _ = fresh(room=500)
        edits = [(9, n, n, ((9, n - 1),) if n > 1 else (), ("put", "name", (f"k{n:02}", "v" * 20)))
                 for n in range(1, 21)]
        self.assertRaises(TooSmall, house.hear, ("edits", 9, (), tuple(edits)))
        self.assertGreaterEqual(house.looks(), house.stands()[0][1])
        self.assertEqual(len(house.rows("name")), house.stands()[0][1])

    def test_little_is_looked_at(self):
        house, _ = fresh(room=200000)
        text = "8:900 900 ; " + " ; ".join(f"bag link 'w{n:03}','w{n + 1:03}' 8:{n}"
                                           for n in range(1, 900)) + " ; rule one 1 8 'near(?0, ?1) if link(?0, ?1)'"
        house.hear(("state", 8, read_state(S, text)))
        looks = house.looks()
        house.write((), BRING)
        self.assertEqual(house.rows("near")[0], ("a", "b"))
        self.assertLess(house.looks() - looks, 40)
        looks = house.looks()
        house.rows("near"), house.ask((), ("near", ("w003", None))), house.have()
        self.assertEqual(house.looks(), looks)

    def test_errors(self):
        house, _ = fresh()
        for thing in [*odd_things(), "", "A", "abcdefghi"]:
            if thing not in ("a", "link", "rule"):
                self.assertRaises(NoName, house.rows, thing)
        house.write((), ("rule", "r", rule("x", [1], ("not", "x", (1,)))))
        self.assertEqual(field(self, Barred, house.rows, "x"), {"bar": ("ring", ("x",))})


class Falls(unittest.TestCase):
    def test_down_ahead_of_all_else(self):
        house, disk = fresh()
        house.write((), BRING)
        for kept in (None, (), (NOTHING,), ((1, 0, ""), NOTHING), (NOTHING, (0, 0, "x"))):
            self.assertRaises(BadKept, house.fall, kept)
        self.assertEqual(house.stands(), ((7, 1),))
        texts = disk.texts()
        self.assertIsNone(house.fall((NOTHING, NOTHING)))
        for call, *given in all_calls(house):
            self.assertRaises(Down, call, *given)
        self.assertRaises(Down, house_text, house)
        self.assertEqual(disk.texts(), texts)
        again = house_at(S, P, disk)
        self.assertEqual(again.stands(), ((7, 1),))
        self.assertRaises(Down, house.stands)

    def test_a_house_is_equal_to_itself_alone(self):
        house, disk = fresh()
        self.assertTrue(house == house)
        self.assertFalse(house == house_at(S, P, disk))

    def test_what_lies_aside_and_faults_are_gone(self):
        house, disk = fresh()
        house.hear(("edits", 9, (), ((9, 2, 5, ((9, 1),), BRING),)))
        house.hear(("root", 9, (), 5))
        self.assertEqual((len(house.aside()), len(house.faults())), (1, 1))
        again = house_at(S, P, disk)
        self.assertEqual((again.aside(), again.faults()), ([], []))

    def test_opened_on_copies_cut_anywhere(self):
        """Whatever a fall leaves, the house stands for each mark that it told."""
        house, disk = fresh()
        told = []
        for at in range(4):
            told.append(house.write((), BRING)[1])
            house.hear(("edits", 8, (), (chain(8, 4)[at],)))
            told.append(house.stands())
        house.forget(((7, 2),))
        house.hear(("state", 9, house.state()))
        house.forget(((8, 1),))
        deeds = disk.open_deeds()[0]
        self.assertEqual(len(deeds), 3)
        for many in range(4):
            signs = range(len(deeds[many])) if many < 3 else [0]
            for cut in signs:
                for tail in ("", "x", "1 2 gone 5"):
                    other = disk.copy()
                    other.fall(((many, cut, tail), NOTHING))
                    texts = other.texts()
                    again = house_at(S, P, other)
                    self.assertEqual(other.texts(), texts)
                    self.assertTrue(all(holds(again.stands(), mark) for mark in told))
                    self.assertEqual(again.state(), house.state())
                    self.assertEqual(again.gone(), [(), ((7, 2),), ((7, 4), (8, 4)), ((7, 4), (8, 4))][many])
                    self.assertEqual(told_by(house_at(S, P, other)), told_by(again))
                    again.write(told[-1], BRING)
                    self.assertEqual(told_by(house_at(S, P, other)), told_by(again))


class Lives(unittest.TestCase):
    """Houses compared with what the words of the document say of them, through lives by chance."""

    def test_by_chance(self):
        seen = {"fell": 0, "small": 0, "turned": 0, "aside": 0, "states": 0, "edits": 0}
        for seed, chance in enumerate(chances(60)):
            room = chance.choice([420, 700, 1500, 4000, 200000])
            areas = chance.choice([2, 3])
            register = Register()
            lives = [3, 1, 20][:chance.choice([2, 3])]
            disks = {life: Disk(areas, room) for life in lives}
            houses = {life: House(life, S, P, disks[life]) for life in lives}
            slow = {life: SlowHouse(life, P, areas, room, register) for life in lives}
            bag, told = [], {life: [] for life in lives}
            for _ in range(80):
                life = chance.choice(lives)
                word = chance.choice(["write"] * 4 + ["have"] * 3 + ["bring"] * 8 + ["forget", "turn", "fall", "ask",
                                                                                     "lone"])
                self.step(chance, word, life, houses, slow, disks, bag, told, seen, register)
                for one in lives:
                    self.assertEqual(told_by(houses[one]), slow[one].told())
                    self.assertEqual(disks[one].texts(), tuple(slow[one].texts))
                    self.assertEqual(house_text(houses[one]), slow[one].first())
                    self.assertTrue(all(holds(slow[one].mark, mark) for mark in told[one]))
        self.assertGreater(min(seen.values()), 15, seen)

    def step(self, chance, word, life, houses, slow, disks, bag, told, seen, register):
        house, model = houses[life], slow[life]
        generation = model.number
        if word == "write":
            deed = random_deed(chance)
            pair = self.both(house.write, ((), deed), model.write, (deed,), seen)
            told[life] += [pair[1]] if pair else []
        if word == "have":
            other = chance.choice([one for one in houses if one != life])
            self.assertEqual(house.have(), model.have())
            bag.append((other, house.have()))
            told[life].append(model.mark)
        if word == "bring" and bag:
            to, letter = bag.pop(chance.randrange(len(bag)))
            bag += [(to, letter)] * chance.choice([0, 0, 0, 1])
            seen["states"] += letter[0] == "state"
            seen["edits"] += letter[0] == "edits"
            answers = self.both(houses[to].hear, (letter,), slow[to].hear, (letter,), seen)
            bag += [(letter[1], answer) for answer in answers or []]
            told[to] += [slow[to].mark] if answers else []
            seen["aside"] += bool(slow[to].aside)
        if word == "lone" and register.edits:
            # Edits out of their order, as if letters were cut.
            edit = chance.choice(register.edits)
            if edit[0] != life:
                letter = ("edits", 999, (), (edit, chance.choice([one for one in register.edits if one[0] != life])))
                self.both(house.hear, (letter,), model.hear, (letter,), seen)
                seen["aside"] += bool(model.aside)
        if word == "forget":
            mark = tuple(pair for pair in model.mark if chance.random() < 0.6)
            self.both(house.forget, (mark,), model.forget, (mark,), seen)
        if word == "turn":
            self.both(house.turn, (), model.turn, (), seen)
        if word == "ask":
            question = ("near", (chance.choice("abc"), None))
            self.assertEqual(house.ask((), question), model.ask(question))
            told[life].append(model.mark)
        if word == "fall":
            house.fall(tuple(some_kept(chance, deeds) for deeds in disks[life].open_deeds()))
            texts = disks[life].texts()
            houses[life] = house_at(S, P, disks[life])
            self.assertEqual(disks[life].texts(), texts)
            model.fell(texts)
            seen["fell"] += 1
        seen["turned"] += model.number != generation

    def both(self, call, given, slow_call, slow_given, seen):
        """What both calls tell; both may raise TooSmall alone."""
        try:
            told = unchanged(self, call, *given) if not any(isinstance(part, tuple) and part[:1] == ("state",)
                                                            for part in given) else call(*given)
        except TooSmall:
            seen["small"] += 1
            self.assertRaises(TooSmall, slow_call, *slow_given)
            return None
        self.assertEqual(told, slow_call(*slow_given))
        return told


class Told(unittest.TestCase):
    def test_lists_are_new(self):
        house, _ = fresh()
        house.write((), BRING)
        house.hear(("edits", 9, (), ((9, 2, 5, ((9, 1),), BRING),)))
        house.hear(("root", 9, ((7, 1),), 5))
        kept = told_by(house)
        for call in (house.kept, house.aside, house.faults, lambda: house.hear(("have", 9, ())),
                     lambda: house.hear(("have", 9, ((7, 1),)))):
            one = call()
            wanted = list(one)
            one.clear()
            one.append("spoilt")
            self.assertEqual(call(), wanted)
        self.assertEqual(told_by(house), kept)

    def test_deep_things(self):
        house, _ = fresh()
        for thing in (deep(tuple, 30), deep(list, 30), deep(dict, 30)):
            self.assertRaises(NoMark, house.write, thing, thing)
            self.assertRaises(NoDeed, house.write, (), ("rule", "r", thing))
            self.assertRaises(NoLetter, house.hear, ("edits", 9, (), thing))
            self.assertRaises(NoPattern, house.ask, (), thing)
            self.assertRaises(NoMark, house.forget, thing)
            self.assertRaises(BadKept, house.fall, thing)

    def test_roots(self):
        house, _ = fresh()
        self.assertEqual(house.root(), root_number(P, State(S)))
        house.write((), BRING)
        self.assertEqual(house.root(), root_number(P, house.state()))
        house.hear(("state", 9, read_state(S, "9:1 1 ; sum stock 'x' 9 1")))
        self.assertEqual(house.root(), root_number(P, house.state()))
