"""Points 6.1 to 6.3: disks, falls and records."""

import unittest

from shownviews.disks import Disk, record, records
from shownviews.errors import BadDisk, BadKept, Full, NoArea, NoNumber, NoText
from tests.helpers import State, S, chances, odd_things, unchanged
from tests.slowly import SIGNS, slow_mix

SEAL = 2 ** 61 - 1


def field(case, error, call, *given):
    """The fields of the error that a call raises, which must be just of this class."""
    with case.assertRaises(error) as caught:
        call(*given)
    case.assertIs(type(caught.exception), error)
    return vars(caught.exception)


class Puts(unittest.TestCase):
    def test_how_many_areas_and_how_much_room(self):
        for areas in (2, 3, 6):
            for room in (200, 201, 200000):
                disk = Disk(areas, room)
                self.assertEqual(disk.texts(), ("",) * areas)
                self.assertEqual(disk.open_deeds(), ((),) * areas)
                disk.put(areas - 1, "x" * room)
                self.assertEqual(field(self, Full, disk.put, areas - 1, "x"), {"area": areas - 1})

    def test_bad_disks(self):
        for areas in (1, 7, 0, -2, True, False, None, "2", (2,), 10 ** 39):
            for room in (200, 199, None):
                self.assertEqual(field(self, BadDisk, Disk, areas, room), {"part": "areas"})
        for room in (199, 200001, 0, -200, True, None, "200", [200], 10 ** 39):
            self.assertEqual(field(self, BadDisk, Disk, 2, room), {"part": "room"})
        for thing in odd_things():
            self.assertEqual(field(self, BadDisk, Disk, thing, thing), {"part": "areas"})
            self.assertEqual(field(self, BadDisk, Disk, 2, thing), {"part": "room"})

    def test_texts_stand_behind_one_another(self):
        disk = Disk(3, 200)
        disk.put(0, "one")
        disk.put(2, SIGNS)
        disk.put(0, "")
        disk.put(0, "\n'two")
        self.assertEqual(disk.texts(), ("one\n'two", "", SIGNS))
        disk.clear(0)
        disk.clear(1)
        self.assertEqual(disk.texts(), ("", "", SIGNS))

    def test_full(self):
        disk = Disk(2, 200)
        disk.put(0, "a" * 150)
        self.assertEqual(field(self, Full, disk.put, 0, "b" * 51), {"area": 0})
        self.assertEqual(disk.texts(), ("a" * 150, ""))
        self.assertEqual(disk.open_deeds(), (("a" * 150,), ()))
        disk.put(0, "b" * 50)
        disk.put(0, "")
        self.assertEqual(field(self, Full, disk.put, 0, "c"), {"area": 0})
        disk.put(1, "c" * 200)
        disk.clear(0)
        disk.put(0, "d" * 200)
        self.assertEqual(disk.texts(), ("d" * 200, "c" * 200))

    def test_errors(self):
        disk = Disk(2, 200)
        disk.put(1, "x")
        for area in (-1, 2, 10 ** 39, True, None, "0", (0,), 6):
            self.assertRaises(NoArea, disk.put, area, None)
            self.assertRaises(NoArea, disk.clear, area)
        for thing in odd_things():
            if thing not in (0, 1) or isinstance(thing, bool):
                self.assertRaises(NoArea, disk.put, thing, "x")
                self.assertRaises(NoArea, disk.clear, thing)
            if type(thing) is not str:
                self.assertRaises(NoText, disk.put, 1, thing)
        for text in ("\t", "a\r", "\x7f", "\u00e4", "\x00", b"x", "x" * 300 + "\t"):
            self.assertRaises(NoText, disk.put, 0, text)
        self.assertRaises(Full, disk.put, 0, "x" * 201)
        self.assertEqual((disk.texts(), disk.open_deeds()), (("", "x"), ((), ("x",))))

    def test_open_deeds(self):
        disk = Disk(2, 200)
        for text in ("a", "", "bc", ""):
            disk.put(0, text)
        disk.clear(0)
        disk.clear(1)
        disk.put(0, "d")
        self.assertEqual(disk.open_deeds(), (("a", "bc", None, "d"), (None,)))
        disk.sure()
        self.assertEqual(disk.open_deeds(), ((), ()))
        self.assertEqual(disk.texts(), ("d", ""))
        disk.sure()
        disk.put(1, "e")
        self.assertEqual(disk.open_deeds(), ((), ("e",)))

    def test_a_disk_is_equal_to_itself_alone(self):
        disk = Disk(2, 200)
        self.assertTrue(disk == disk)
        self.assertFalse(disk == Disk(2, 200))
        self.assertFalse(disk == disk.copy())

    def test_a_copy_goes_on_apart(self):
        disk = Disk(2, 200)
        disk.put(0, "sure")
        disk.sure()
        disk.put(0, "open")
        disk.clear(1)
        other = disk.copy()
        self.assertIs(type(other), Disk)
        self.assertEqual((other.texts(), other.open_deeds()), (disk.texts(), disk.open_deeds()))
        other.put(0, "more")
        other.clear(1)
        self.assertEqual((disk.texts(), disk.open_deeds()), (("sureopen", ""), (("open",), (None,))))
        disk.fall(((0, 2, "x"), (0, 0, "")))
        self.assertEqual(disk.texts(), ("sureopx", ""))
        self.assertEqual(other.open_deeds(), (("open", "more"), (None, None)))
        other.fall(((1, 0, ""), (2, 0, "")))
        self.assertEqual(other.texts(), ("sureopen", ""))
        self.assertEqual(field(self, Full, other.put, 0, "x" * 193), {"area": 0})
        last = other.copy()
        other.sure()
        other.clear(0)
        self.assertEqual(last.texts(), ("sureopen", ""))


class Falls(unittest.TestCase):
    def fallen(self, kept, deeds=("ab", "cde"), area=0, room=200):
        disk = Disk(2, room)
        disk.put(area, "S")
        disk.sure()
        for deed in deeds:
            if deed is None:
                disk.clear(area)
            else:
                disk.put(area, deed)
        disk.fall((kept, (0, 0, "")) if area == 0 else ((0, 0, ""), kept))
        self.assertEqual(disk.open_deeds(), ((), ()))
        self.assertEqual(disk.texts()[1 - area], "")
        return disk.texts()[area]

    def test_what_is_left(self):
        for kept, left in (((0, 0, ""), "S"), ((1, 0, ""), "Sab"), ((2, 0, ""), "Sabcde"), ((0, 1, ""), "Sa"),
                           ((1, 1, ""), "Sabc"),
                           ((1, 2, ""), "Sabcd"), ((0, 0, "tail"), "Stail"), ((1, 2, "x y"), "Sabcdx y"),
                           ((2, 0, "~"), "Sabcde~")):
            self.assertEqual(self.fallen(kept), left)
            self.assertEqual(self.fallen(kept, area=1), left)
        for kept, left in (((0, 0, ""), "S"), ((1, 0, ""), ""), ((0, 0, "t"), "St"), ((1, 1, "t"), "at"),
                           ((2, 0, "t"), "abt"),
                           ((3, 0, ""), "")):
            self.assertEqual(self.fallen(kept, (None, "ab", None)), left)
        self.assertEqual(self.fallen((1, 0, ""), (None,)), "")
        self.assertEqual(self.fallen((0, 0, ""), ()), "S")

    def test_what_is_left_is_sure(self):
        disk = Disk(2, 200)
        disk.put(0, "abc")
        disk.fall(((0, 2, "t"), (0, 0, "")))
        disk.put(0, "more")
        disk.fall(((0, 0, ""), (0, 0, "")))
        self.assertEqual(disk.texts(), ("abt", ""))

    def test_tails_go_as_far_as_there_is_room(self):
        tail = "t" * 60
        for many in (139, 140, 199, 200):
            self.assertEqual(self.fallen((1, 0, tail), ("x" * (many - 1),)), ("S" + "x" * (many - 1) + tail)[:200])
        self.assertEqual(self.fallen((0, 0, tail), ("x" * 199,)), "S" + tail)
        self.assertEqual(self.fallen((0, 150, tail), ("x" * 199,)), ("S" + "x" * 150 + tail)[:200])

    def bad(self, part, deeds=("ab", "cde")):
        disk = Disk(3, 200)
        for deed in deeds:
            for area in (0, 1, 2):
                if deed is None:
                    disk.clear(area)
                else:
                    disk.put(area, deed)
        kept = (disk.texts(), disk.open_deeds())
        for area in (0, 1, 2):
            for wrong in ((part if at == area else (0, 0, "") for at in range(3)),
                          (part if at >= area else (0, 0, "") for at in range(3))):
                self.assertEqual(field(self, BadKept, disk.fall, tuple(wrong)), {"area": area})
        self.assertEqual((disk.texts(), disk.open_deeds()), kept)

    def test_bad_triples(self):
        for part in ((3, 0, ""), (-1, 0, ""), (True, 0, ""), (0, True, ""), (0, False, ""), (False, 0, ""), (0, 2, ""),
                     (1, 3, ""),
                     (2, 1, ""), (0, -1, ""), (0, 0, "t" * 61), (0, 0, "a\nb"), (0, 0, "\n"), (0, 0, "\t"),
                     (0, 0, None), (0, 0, b""),
                     (0, 0, 0), ("0", 0, ""), (None, 0, ""), (0, None, ""), (0, 0), (0, 0, "", 0), [0, 0, ""], (), None,
                     0, "",
                     (10 ** 39, 0, ""), (0, 10 ** 39, ""), (1.0, 0, "")):
            self.bad(part)
        for part in ((1, 1, ""), (0, 1, ""), (2, 0, "")):
            self.bad(part, (None,))
        for part in ((0, 1, ""), (0, 0, "t"), (1, 0, ""), (0, 0, " ")):
            self.bad(part, ())
        self.bad((0, 0, "t"), (None, None))
        self.bad((1, 1, ""), (None, None))
        self.bad((1, 2, ""), (None, "ab"))
        for thing in odd_things():
            self.bad(thing)
            self.bad((0, 0, thing) if thing not in ("", "a", "link", "rule", "is", "not") else None)
            if type(thing) is not int:
                self.bad((thing, 0, ""))
                self.bad((0, thing, ""))

    def test_what_is_no_tuple_of_as_many(self):
        good = (0, 0, "")
        for kept in ((good,), (good,) * 3, (), [good, good], None, True, 2, "ab", {0: good, 1: good}, good,
                     *odd_things()):
            disk = Disk(2, 200)
            disk.put(0, "ab")
            if not (type(kept) is tuple and len(kept) == 2):
                self.assertEqual(field(self, BadKept, disk.fall, kept), {"area": -1})
                self.assertEqual((disk.texts(), disk.open_deeds()), (("ab", ""), (("ab",), ())))
        disk = Disk(2, 200)
        self.assertEqual(field(self, BadKept, disk.fall, ((1, 0, ""), (1, 0, ""))), {"area": 0})
        self.assertEqual(field(self, BadKept, disk.fall, ((0, 0, ""), (1, 0, ""))), {"area": 1})

    def test_by_chance(self):
        """A disk compared with lists of what was done."""
        for chance in chances(60):
            areas, room = chance.randrange(2, 7), chance.choice([200, 300])
            disk = Disk(areas, room)
            sure, deeds = [""] * areas, [[] for _ in range(areas)]
            for _ in range(60):
                area, word = chance.randrange(areas), chance.choice(["put"] * 6 + ["clear", "sure", "fall", "copy"])
                if word == "put":
                    text = "".join(chance.choice(SIGNS) for _ in range(chance.choice([0, 1, 5, 40])))
                    if len(slow_done(sure[area], deeds[area])) + len(text) > room:
                        self.assertEqual(field(self, Full, disk.put, area, text), {"area": area})
                    else:
                        disk.put(area, text)
                        deeds[area] += [text] if text else []
                if word == "clear":
                    disk.clear(area)
                    deeds[area].append(None)
                if word == "sure":
                    disk.sure()
                    sure = [slow_done(*pair) for pair in zip(sure, deeds)]
                    deeds = [[] for _ in range(areas)]
                if word == "fall":
                    kept = tuple(some_kept(chance, list(part)) for part in deeds)
                    disk.fall(kept)
                    sure = [(slow_done(text, part[:many]) + (part[many][:signs] if signs else "") + tail)[:room]
                            for text, part, (many, signs, tail) in zip(sure, deeds, kept)]
                    deeds = [[] for _ in range(areas)]
                if word == "copy":
                    disk = disk.copy()
                self.assertEqual(disk.open_deeds(), tuple(tuple(part) for part in deeds))
                self.assertEqual(disk.texts(), tuple(slow_done(*pair) for pair in zip(sure, deeds)))


def slow_done(text, deeds):
    for deed in deeds:
        text = "" if deed is None else text + deed
    return text


def some_kept(chance, deeds):
    """A triple of what may be kept of an area with these open deeds."""
    many = chance.randrange(len(deeds) + 1)
    signs = 0
    if many < len(deeds) and deeds[many] is not None:
        signs = chance.randrange(len(deeds[many]))
    tail = ""
    if any(deed is not None for deed in deeds):
        tail = "".join(chance.choice(SIGNS[1:]) for _ in range(chance.choice([0, 0, 1, 5, 60])))
    return (many, signs, tail)


def slow_record(number, body):
    ahead = f"{number} {len(body)} {body}"
    return f"{ahead} {slow_mix(SEAL, ahead)}\n"


BODIES = ["", "a", " ", "a b", "12 3", "1 0  ", "first x", SIGNS[1:], "x" * 300, "-", "007"]


class Records(unittest.TestCase):
    def test_records(self):
        for number in (0, 1, 7, 10 ** 9 - 1, 10 ** 9):
            for body in [*BODIES, slow_record(1, "x")[:-1]]:
                self.assertEqual(record(number, body), slow_record(number, body))
                self.assertEqual(records(record(number, body)), ([(number, body)], len(slow_record(number, body))))

    def test_errors_of_record(self):
        for number in (-1, 10 ** 9 + 1, True, False, None, "1", (1,), 10 ** 39, 1.0, b"1"):
            self.assertRaises(NoNumber, record, number, None)
        for body in ("\n", "a\nb", "a\n", "\t", "\u00e4", None, b"a", ("a",), 1):
            self.assertRaises(NoText, record, 1, body)
        for thing in odd_things():
            if thing not in (0, 1) or isinstance(thing, bool):
                self.assertRaises(NoNumber, record, thing, "a")
            if type(thing) is not str or thing == "\n":
                self.assertRaises(NoText, record, 1, thing)

    def test_errors_of_records(self):
        for thing in odd_things():
            if type(thing) is not str:
                self.assertRaises(NoText, records, thing)
        for text in ("\t", record(1, "a") + "\r", "\u00e4"):
            self.assertRaises(NoText, records, text)

    def test_nothing(self):
        for text in ("", "\n", "x", " ", "1", "1 1 a", "0 0  5\n", "1 99999 a", "9" * 20000, "1 " + "9" * 20000 + " a"):
            self.assertEqual(records(text), ([], 0))

    def test_all_cuts(self):
        pairs = [(1, "first x"), (1, "a b"), (0, ""), (10 ** 9, "1 1 a"), (3, record(2, "x")[:-1])]
        lines = [slow_record(*pair) for pair in pairs]
        text = "".join(lines)
        ends = [len("".join(lines[:many])) for many in range(len(lines) + 1)]
        for at in range(len(text) + 1):
            many = max(n for n, end in enumerate(ends) if end <= at)
            for tail in ("", "\n", "x", "1 1 a 5\n", " 1"):
                if at == ends[many] or tail == "":
                    self.assertEqual(records(text[:at] + tail), (pairs[:many], ends[many]))
            cut = records(text[:at] + "x\n")
            self.assertEqual(cut, (pairs[:many], ends[many]))

    def test_signs_turned_put_in_and_left_out(self):
        pairs = [(1, "a 1"), (2, "b"), (3, "cc")]
        lines = [slow_record(*pair) for pair in pairs]
        text = "".join(lines)
        for at in range(len(text)):
            wrong = [text[:at] + text[at + 1:]]
            wrong += [text[:at] + sign + text[at + 1:] for sign in "x0 1\n9~" if sign != text[at]]
            wrong += [text[:at] + sign + text[at:] for sign in "x0 1\n"]
            for one in wrong:
                told, signs = records(one)
                self.assertEqual("".join(slow_record(*pair) for pair in told), one[:signs])
                self.assertEqual(records(one[signs:]), ([], 0))
                hit = [n for n in range(3) if at < len("".join(lines[:n + 1]))][0]
                self.assertEqual(told[:hit], pairs[:hit])
                # Just a line feed put in behind a record leaves this one whole.
                self.assertEqual(told, pairs[:hit + (one[:at + 1] == "".join(lines[:hit + 1]))])

    def test_lines_exchanged(self):
        one, two = record(1, "a"), record(2, "b")
        self.assertEqual(records(two + one), ([(2, "b"), (1, "a")], len(one + two)))
        self.assertEqual(records(one + one), ([(1, "a"), (1, "a")], 2 * len(one)))

    def test_needless_zeros(self):
        for ahead in ("01 1 a", "1 01 a", "00 1 a", "+1 1 a", "-1 1 a", "1  1 a", " 1 1 a", "1 1  a", "1 1 a ",
                      "1_0 1 a", "1000000001 1 a",
                      "01000000000 1 a"):
            text = f"{ahead} {slow_mix(SEAL, ahead)}\n"
            self.assertEqual(records(text), ([], 0))
        good = "1 1 a"
        for seal in (f"0{slow_mix(SEAL, good)}", f"{slow_mix(SEAL, good) + SEAL}", f"{slow_mix(SEAL, good)} ", "",
                     f"+{slow_mix(SEAL, good)}"):
            self.assertEqual(records(f"{good} {seal}\n"), ([], 0))
        for length, body in ((0, "a"), (2, "a"), (1, "ab"), (3, "a\nb")):
            ahead = f"1 {length} {body}"
            self.assertEqual(records(f"{ahead} {slow_mix(SEAL, ahead)}\n"), ([], 0))

    def test_told_lists_are_new(self):
        text = record(1, "a") + record(2, "b")
        told, _ = unchanged(self, records, text)
        told.clear()
        self.assertEqual(records(text)[0], [(1, "a"), (2, "b")])
        self.assertIs(type(records(text)), tuple)
        self.assertIs(type(records(text)[0]), list)

    def test_things_of_the_package(self):
        for thing in (State(S), Disk(2, 200), ValueError, print):
            self.assertRaises(NoNumber, record, thing, "a")
            self.assertRaises(NoText, record, 1, thing)
            self.assertRaises(NoText, records, thing)
