"""Point 6.5: stores, which keep records by generations."""

import unittest

from shownviews.disks import Disk, record
from shownviews.errors import BadKept, Down, NoStore, NoText, TooSmall
from shownviews.stores import Store, begun
from tests.helpers import State, S, chances, odd_things, unchanged
from tests.test_disks import slow_record, some_kept

NOTHING = (0, 0, "")


def never():
    raise AssertionError("now is called where no new generation is due")


class Now:
    """Tells bodies, and counts how often it does."""

    def __init__(self, body):
        self.body = body
        self.called = 0

    def tell(self):
        self.called += 1
        return self.body


def told_by(store):
    return (store.where(), store.generation(), store.first(), store.entries())


def disk_of(*texts, room=2000):
    disk = Disk(max(2, len(texts)), room)
    for area, text in enumerate(texts):
        disk.put(area, text)
    disk.sure()
    return disk


class Begun(unittest.TestCase):
    def test_on_an_empty_disk(self):
        disk = Disk(3, 200)
        store = begun(disk, "x y")
        self.assertIs(type(store), Store)
        self.assertEqual(told_by(store), (0, 1, "x y", []))
        self.assertEqual(disk.texts(), (slow_record(1, "first x y"), "", ""))
        self.assertEqual(disk.open_deeds(), ((), (), ()))

    def test_on_a_used_disk(self):
        disk = disk_of("spoilt", record(7, "first a") + record(1, "b"), record(8, "first c"))
        disk.put(1, "open")
        store = begun(disk, "")
        self.assertEqual(told_by(store), (0, 1, "", []))
        self.assertEqual(disk.texts(), (record(1, "first "), "", ""))
        self.assertEqual(disk.open_deeds(), ((), (), ()))
        self.assertEqual(told_by(Store(disk)), (0, 1, "", []))

    def test_errors(self):
        disk = disk_of("spoilt", record(7, "first a"), room=200)
        disk.put(0, "open")
        kept = (disk.texts(), disk.open_deeds())
        for thing in [*odd_things(), "\n", "a\nb", "\t", None, b"a", 1]:
            if type(thing) is not str or "\n" in thing or "\t" in thing:
                self.assertRaises(NoText, begun, disk, thing)
        longest = 200 - len(record(1, "first " + "x" * 150)) + 150
        for many in (longest + 2, 300, 20000):
            self.assertRaises(TooSmall, begun, disk, "x" * many)
        self.assertRaises(NoText, begun, disk, "x" * 300 + "\n")
        self.assertEqual((disk.texts(), disk.open_deeds()), kept)

    def test_just_enough_room(self):
        seen = set()
        for many in range(160, 190):
            disk = Disk(2, 200)
            body = "x" * many
            if len(record(1, "first " + body)) <= 200:
                self.assertEqual(begun(disk, body).first(), body)
            else:
                self.assertRaises(TooSmall, begun, disk, body)
            seen.add(len(record(1, "first " + body)) - 200)
        self.assertTrue({0, 1} <= seen or {-1, 1} <= seen)


class Opened(unittest.TestCase):
    def test_the_greatest_generation(self):
        one, two, three = (record(n, f"first f{n}") + record(1, f"e{n}") for n in (1, 2, 3))
        for texts, where in (((one, two), 1), ((two, one), 0), ((one, three, two), 1), (("", one), 1), ((two, ""), 0),
                             (("x", "", one), 2),
                             ((one, "x" + two), 0)):
            disk = disk_of(*texts)
            store = Store(disk)
            n = int(texts[where][0])
            self.assertEqual(told_by(store), (where, n, f"f{n}", [f"e{n}"]))
            self.assertEqual((disk.texts(), disk.open_deeds()), (texts, ((),) * len(texts)))

    def test_entries_as_long_as_their_numbers_go_on(self):
        first = record(5, "first  f ")
        for tail, entries in (("", []), (record(1, "a"), ["a"]), (record(2, "a"), []), (record(0, "a"), []),
                              (record(5, "a"), []),
                              (record(1, "a") + record(2, "") + record(3, "c"), ["a", "", "c"]),
                              (record(1, "a") + record(1, "b"), ["a"]),
                              (record(1, "a") + record(3, "b") + record(2, "b"), ["a"]),
                              (record(1, "a") + "1 1", ["a"]), (record(1, "a") + record(2, "b")[:-1], ["a"]),
                              (record(1, "first x") + record(2, "b"), ["first x", "b"]),
                              ("spoilt" + record(1, "a"), []),
                              (record(6, "first g"), [])):
            for texts in ((first + tail, ""), ("", first + tail), (record(4, "first old") + record(1, "old"),
                                                                   first + tail)):
                disk = disk_of(*texts)
                store = Store(disk)
                self.assertEqual((store.generation(), store.first(), store.entries()), (5, " f ", entries))
                self.assertEqual(disk.texts(), texts)

    def test_areas_that_hold_none(self):
        for text in ("", "x", record(1, "firs x"), record(1, "first"), record(1, "First x"), record(1, " first x"),
                     record(0, "first x"),
                     record(1, "x") + record(2, "first x"), record(1, "first x")[:-1], record(1, "first x")[1:],
                     " " + record(1, "first x"),
                     "\n" + record(1, "first x")):
            self.assertRaises(NoStore, Store, disk_of(text))
            self.assertRaises(NoStore, Store, disk_of("", text, text))
            self.assertEqual(told_by(Store(disk_of(text, record(1, "first x")))), (1, 1, "x", []))
        self.assertEqual(told_by(Store(disk_of(record(10 ** 9, "first ")))), (0, 10 ** 9, "", []))

    def test_no_disks(self):
        for thing in [*odd_things(), State(S)]:
            self.assertRaises(NoStore, Store, thing)


class Adding(unittest.TestCase):
    def test_entries(self):
        disk = Disk(2, 2000)
        store = begun(disk, "f")
        for at, body in enumerate(["a", "", " b c ", "first x", "'~", "3 1 x 5"]):
            self.assertIsNone(store.add(body, never))
            self.assertEqual(disk.texts()[0].splitlines(True)[-1], slow_record(at + 1, body))
            self.assertEqual(store.entries()[at], body)
        self.assertEqual(disk.open_deeds()[0], tuple(disk.texts()[0].splitlines(True)[1:]))
        self.assertEqual(told_by(Store(disk.copy())), told_by(store))
        self.assertIsNone(store.sure())
        self.assertEqual(disk.open_deeds(), ((), ()))
        self.assertEqual(told_by(store), (0, 1, "f", ["a", "", " b c ", "first x", "'~", "3 1 x 5"]))

    def test_what_just_fits_and_one_sign_more(self):
        seen = set()
        for many in range(100, 160):
            disk = Disk(2, 200)
            store = begun(disk, "f")
            body = "x" * many
            left = 200 - len(record(1, "first f")) - len(record(1, body))
            now = Now("g")
            if left >= 0:
                store.add(body, never)
                self.assertEqual(told_by(store), (0, 1, "f", [body]))
                self.assertEqual(len(disk.texts()[0]), 200 - left)
            else:
                self.assertRaises(TooSmall, store.add, body, now.tell)
                self.assertEqual(now.called, 1)
            seen.add(left)
        self.assertTrue(0 in seen and -1 in seen or 1 in seen and -1 in seen, seen)

    def test_a_new_generation_where_there_is_no_room(self):
        for areas in (2, 3, 6):
            disk = Disk(areas, 200)
            store = begun(disk, "f")
            entries, where = [], 0
            for at in range(40):
                body = f"entry {at}"
                now = Now(f"n{at}")
                full = len(disk.texts()[where]) + len(record(len(entries) + 1, body)) > 200
                before = disk.texts()
                store.add(body, now.tell)
                self.assertEqual(now.called, int(full))
                if full:
                    where, entries = (where + 1) % areas, []
                    self.assertEqual(store.first(), f"n{at}")
                    self.assertEqual(disk.texts()[where], slow_record(store.generation(),
                                                                      f"first n{at}") + slow_record(1, body))
                    # All but the entry is sure.
                    self.assertEqual(disk.open_deeds(),
                                     tuple((record(1, body),) if area == where else () for area in range(areas)))
                    for area in range(areas):
                        if area != where:
                            self.assertEqual(disk.texts()[area], before[area])
                entries.append(body)
                self.assertEqual((store.where(), store.entries()), (where, entries))
            self.assertGreater(store.generation(), 5)
            self.assertEqual(told_by(Store(disk)), told_by(store))

    def test_spoilt_signs_behind_the_last_entry(self):
        for tail in ("x", " ", record(5, "x"), record(1, "x"), "2 1 b"):
            disk = disk_of(record(3, "first f") + record(1, "a") + tail, "junk")
            store = Store(disk)
            self.assertEqual(store.entries(), ["a"])
            now = Now("g")
            store.add("b", now.tell)
            self.assertEqual(now.called, 1)
            self.assertEqual(told_by(store), (1, 4, "g", ["b"]))
            self.assertEqual(disk.texts(), (record(3, "first f") + record(1, "a") + tail,
                                            record(4, "first g") + record(1, "b")))

    def test_errors_of_add(self):
        disk = disk_of(record(3, "first f") + record(1, "a") + "x", "junk", room=200)
        store = Store(disk)
        kept = (disk.texts(), told_by(store))
        now = Now("g")
        for thing in odd_things():
            if type(thing) is not str or "\n" in thing:
                self.assertRaises(NoText, store.add, thing, now.tell)
                self.assertRaises(NoText, store.add, "b", Now(thing).tell)
                self.assertRaises(NoText, store.turn, thing)
        self.assertEqual(now.called, 0)
        for body in ("b", "x" * 300):
            for told in ("a\nb", "\t", None):
                now = Now(told)
                self.assertRaises(NoText, store.add, body, now.tell)
                self.assertEqual(now.called, 1)
        for body, told in (("x" * 200, "g"), ("b", "g" * 200), ("x" * 90, "g" * 90), ("x" * 20000, "g" * 20000)):
            now = Now(told)
            self.assertRaises(TooSmall, store.add, body, now.tell)
            self.assertEqual(now.called, 1)
        self.assertRaises(TooSmall, store.turn, "x" * 200)
        self.assertEqual((disk.texts(), told_by(store), disk.open_deeds()), (*kept, ((), ())))
        store.add("b", Now("g").tell)
        self.assertEqual(told_by(store), (1, 4, "g", ["b"]))

    def test_both_records_just_fit(self):
        seen = set()
        for many in range(90, 150):
            disk = disk_of(record(3, "first f") + "x", room=200)
            store = Store(disk)
            left = 200 - len(record(4, "first g")) - len(record(1, "b" * many))
            if left >= 0:
                store.add("b" * many, Now("g").tell)
                self.assertEqual(len(disk.texts()[1]), 200 - left)
            else:
                self.assertRaises(TooSmall, store.add, "b" * many, Now("g").tell)
                self.assertEqual(disk.texts(), (record(3, "first f") + "x", ""))
            seen.add(left)
        self.assertTrue({0, -1} <= seen or {1, -1} <= seen)

    def test_turn(self):
        disk = Disk(3, 300)
        store = begun(disk, "f")
        store.add("a", never)
        for at, where in ((2, 1), (3, 2), (4, 0), (5, 1)):
            self.assertIsNone(store.turn(f"t{at}"))
            self.assertEqual(told_by(store), (where, at, f"t{at}", []))
            self.assertEqual(disk.texts()[where], slow_record(at, f"first t{at}"))
            self.assertEqual(disk.open_deeds(), ((), (), ()))
            self.assertEqual(told_by(Store(disk)), told_by(store))
            store.add(f"e{at}", never)
            self.assertEqual(store.entries(), [f"e{at}"])
        self.assertEqual(disk.texts()[2], record(3, "first t3") + record(1, "e3"))

    def test_a_turn_that_just_fits(self):
        seen = set()
        for many in range(150, 190):
            disk = Disk(2, 200)
            store = begun(disk, "f")
            left = 200 - len(record(2, "first " + "x" * many))
            if left >= 0:
                store.turn("x" * many)
                self.assertEqual(told_by(Store(disk)), (1, 2, "x" * many, []))
            else:
                self.assertRaises(TooSmall, store.turn, "x" * many)
                self.assertEqual(disk.texts(), (record(1, "first f"), ""))
            seen.add(left)
        self.assertTrue({0, -1} <= seen)

    def test_a_turn_makes_sure_of_what_was_added(self):
        disk = Disk(2, 300)
        store = begun(disk, "f")
        store.add("a", never)
        store.turn("with a")
        store.add("b", never)
        disk.fall((NOTHING, NOTHING))
        self.assertEqual(told_by(Store(disk)), (1, 2, "with a", []))
        self.assertEqual(disk.texts()[0], record(1, "first f") + record(1, "a"))

    def test_no_generation_behind_the_last_number(self):
        disk = disk_of(record(10 ** 9, "first f"))
        store = Store(disk)
        self.assertRaises(TooSmall, store.turn, "g")
        store.add("a", never)
        self.assertEqual(told_by(Store(disk)), (0, 10 ** 9, "f", ["a"]))

    def test_what_is_told_is_new(self):
        store = begun(Disk(2, 300), "f")
        store.add("a", never)
        told = store.entries()
        told.clear()
        self.assertEqual(store.entries(), ["a"])
        store.add("b", never)
        self.assertEqual(store.entries(), ["a", "b"])
        unchanged(self, store.turn, "g")


class Falls(unittest.TestCase):
    def test_down(self):
        disk = Disk(2, 300)
        store = begun(disk, "f")
        store.add("a", never)
        for kept in (None, (), (NOTHING,), (NOTHING, (1, 0, "")), ((2, 0, ""), NOTHING), [NOTHING, NOTHING]):
            self.assertRaises(BadKept, store.fall, kept)
        self.assertEqual(told_by(store), (0, 1, "f", ["a"]))
        self.assertEqual(disk.open_deeds(), ((record(1, "a"),), ()))
        self.assertIsNone(store.fall((NOTHING, NOTHING)))
        for call, given in ((store.where, ()), (store.generation, ()), (store.first, ()), (store.entries, ()),
                            (store.add, (None, None)),
                            (store.add, ("a", never)), (store.turn, (None,)), (store.turn, ("g",)), (store.sure, ()),
                            (store.fall, (None,)),
                            (store.fall, ((NOTHING, NOTHING),))):
            self.assertRaises(Down, call, *given)
        self.assertEqual(disk.texts(), (record(1, "first f"), ""))
        self.assertEqual(told_by(Store(disk)), (0, 1, "f", []))

    def test_what_is_sure_stands(self):
        disk = Disk(2, 300)
        store = begun(disk, "f")
        store.add("a", never)
        store.sure()
        store.add("b", never)
        store.add("c", never)
        line = record(2, "b")
        for kept, entries, clean in ((NOTHING, ["a"], True), ((1, 0, ""), ["a", "b"], True),
                                     ((2, 0, ""), ["a", "b", "c"], True),
                                     ((0, len(line) - 1, ""), ["a"], False), ((1, 3, "x"), ["a", "b"], False),
                                     ((2, 0, "x"), ["a", "b", "c"], False),
                                     ((0, len(line) - 1, "9 1"), ["a"], False), ((0, 0, line[:-1]), ["a"], False)):
            other = disk.copy()
            Store(other).fall((kept, NOTHING))
            again = Store(other)
            self.assertEqual(told_by(again), (0, 1, "f", entries))
            now = Now("g")
            again.add("d", now.tell)
            self.assertEqual(now.called, int(not clean))
            self.assertEqual(told_by(Store(other)), (0, 1, "f", [*entries, "d"]) if clean else (1, 2, "g", ["d"]))

    def test_the_fact_of_stores(self):
        """Lives by chance: behind any fall a store is as it was at a moment not ahead of the last sure or turn."""
        falls = lost = turns = 0
        for chance in chances(80):
            areas = chance.randrange(2, 5)
            disk = Disk(areas, chance.choice([200, 260, 1000]))
            store = begun(disk, "f")
            moments = [told_by(store)[1:]]
            for at in range(80):
                word = chance.choice(["add"] * 6 + ["sure", "turn", "fall"])
                body = "".join(chance.choice("ab 1'~") for _ in range(chance.choice([0, 3, 20])))
                if word == "add":
                    now = Now(f"now {at}")
                    store.add(body, now.tell)
                    if now.called:
                        turns += 1
                        moments = [(store.generation(), f"now {at}", [])]
                    moments.append(told_by(store)[1:])
                if word == "sure":
                    store.sure()
                    moments = [told_by(store)[1:]]
                if word == "turn":
                    store.turn(body)
                    moments = [told_by(store)[1:]]
                    self.assertEqual(moments, [(store.generation(), body, [])])
                if word == "fall":
                    store.fall(tuple(some_kept(chance, deeds) for deeds in disk.open_deeds()))
                    texts = disk.texts()
                    store = Store(disk)
                    self.assertEqual(disk.texts(), texts)
                    self.assertEqual(disk.open_deeds(), ((),) * areas)
                    self.assertIn(told_by(store)[1:], moments)
                    falls += 1
                    lost += told_by(store)[1:] != moments[-1]
                    moments = [told_by(store)[1:]]
        self.assertGreater(min(falls, lost, turns), 100, (falls, lost, turns))
