"""Stores: records on a disk by generations, each in an area, of which the one of the greatest number counts."""

from shownviews.disks import GREATEST_NUMBER, Disk, is_line, record, records
from shownviews.errors import Down, NoStore, NoText, TooSmall

FIRST = "first "


class Store:
    """The generation with the greatest number on a disk: its first body, and the entries behind it."""

    def __init__(self, disk):
        found = newest(disk.texts()) if isinstance(disk, Disk) else None
        if found is None:
            raise NoStore()
        self._disk = disk
        self._area, self._generation, self._first, self._entries = found
        self._many_signs = len(self._first_record()) + sum([len(line) for line in entry_records(self._entries)])
        self._is_down = False

    def where(self):
        """The area in which the generation stands."""
        self._check_up()
        return self._area

    def generation(self):
        self._check_up()
        return self._generation

    def first(self):
        self._check_up()
        return self._first

    def entries(self):
        self._check_up()
        return list(self._entries)

    def add(self, body, now):
        """Puts an entry behind the others, or, where this can not be, into a new generation, whose body now tells."""
        self._check_up()
        check_body(body)
        line = record(len(self._entries) + 1, body)
        there = len(self._disk.texts()[self._area])
        if there == self._many_signs and there + len(line) <= self._disk.room:
            self._put(body, line)
            return
        told = now()
        check_body(told)
        line = record(1, body)
        self._begin(told, len(line))
        self._put(body, line)

    def turn(self, body):
        """Begins a new generation in the next area, behind the last one in the first."""
        self._check_up()
        check_body(body)
        self._begin(body, 0)

    def sure(self):
        self._check_up()
        self._disk.sure()

    def fall(self, kept):
        """Lets the disk fall; the Store is no use any more."""
        self._check_up()
        self._disk.fall(kept)
        self._is_down = True

    def _check_up(self):
        if self._is_down:
            raise Down()

    def _first_record(self):
        return record(self._generation, FIRST + self._first)

    def _put(self, body, line):
        self._disk.put(self._area, line)
        self._entries.append(body)
        self._many_signs += len(line)

    def _begin(self, body, more):
        """Begins a new generation, if there is room for so many signs more."""
        # There is no record of a greater number.
        if self._generation == GREATEST_NUMBER:
            raise TooSmall()
        line = record(self._generation + 1, FIRST + body)
        if len(line) + more > self._disk.room:
            raise TooSmall()
        self._area = (self._area + 1) % len(self._disk.texts())
        self._generation += 1
        self._first = body
        self._entries = []
        self._many_signs = len(line)
        self._disk.clear(self._area)
        self._disk.put(self._area, line)
        self._disk.sure()


def check_body(thing):
    if not is_line(thing):
        raise NoText()


def entry_records(entries):
    return [record(at + 1, body) for at, body in enumerate(entries)]


def newest(texts):
    """The tuple (area, generation, first body, entries) of the greatest generation that the texts of areas hold, None
    without one."""
    told = None
    for area, text in enumerate(texts):
        found = held_in(text)
        if found is not None and (told is None or found[0] > told[1]):
            told = (area, *found)
    return told


def held_in(text):
    """The triple (generation, first body, entries) of what an area with this text holds, None of nothing."""
    found, _ = records(text)
    if not found or found[0][0] < 1 or not found[0][1].startswith(FIRST):
        return None
    entries = []
    for number, body in found[1:]:
        if number != len(entries) + 1:
            break
        entries.append(body)
    return (found[0][0], found[0][1][len(FIRST):], entries)


def begun(disk, body):
    """The Store of the first generation, of this body, on a disk on which nothing else is left."""
    check_body(body)
    line = record(1, FIRST + body)
    if len(line) > disk.room:
        raise TooSmall()
    many = len(disk.texts())
    for area in range(many):
        disk.clear(area)
    disk.put(0, line)
    disk.sure()
    return Store(disk)
