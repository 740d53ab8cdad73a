"""Disks, on which texts are put that a fall may lose or cut, and records, which tell whether they are whole."""

from shownviews.errors import BadDisk, BadKept, Full, NoArea, NoNumber, NoText
from shownviews.mixing import is_text, mixed
from shownviews.readers import NotRead, Reader, read_number
from shownviews.worths import is_integer, is_number, is_tuple_of

LEAST_ROOM = 200
GREATEST_ROOM = 200000
LONGEST_TAIL = 60
GREATEST_NUMBER = 10 ** 9
# So many digits are enough for each number of a record, and for how long its body is.
MOST_DIGITS = 12
SEAL_PRIME = 2 ** 61 - 1


def is_line(thing):
    """Whether a thing is a text without line feeds."""
    return is_text(thing) and "\n" not in thing


class Disk:
    """Areas in which texts stand; what was done there since the last sure is open, and may be lost by a fall."""

    def __init__(self, areas, room):
        if not is_integer(areas) or not 2 <= areas <= 6:
            raise BadDisk("areas")
        if not is_integer(room) or not LEAST_ROOM <= room <= GREATEST_ROOM:
            raise BadDisk("room")
        self.room = room
        self._texts = [""] * areas
        self._sure = [""] * areas
        # For each area the list of its open deeds: a string for each put, None for each clear.
        self._deeds = [[] for _ in range(areas)]

    def texts(self):
        """The tuple of what stands in each area."""
        return tuple(self._texts)

    def put(self, area, text):
        """Puts a text behind what stands in an area."""
        self._check_area(area)
        if not is_text(text):
            raise NoText()
        if len(self._texts[area]) + len(text) > self.room:
            raise Full(area)
        if text:
            self._texts[area] += text
            self._deeds[area].append(text)

    def clear(self, area):
        """Takes away what stands in an area."""
        self._check_area(area)
        self._texts[area] = ""
        self._deeds[area].append(None)

    def _check_area(self, area):
        if not is_number(area) or area >= len(self._texts):
            raise NoArea()

    def sure(self):
        """Makes sure that what was done so far can not be lost any more."""
        self._sure = list(self._texts)
        self._deeds = [[] for _ in self._texts]

    def open_deeds(self):
        """For each area the tuple of what was done there since the last sure."""
        return tuple([tuple(deeds) for deeds in self._deeds])

    def fall(self, kept):
        """Loses all open deeds but what is kept of them, a triple (deeds, signs, tail) for each area."""
        if not is_tuple_of(kept, len(self._texts), len(self._texts)):
            raise BadKept(-1)
        for area, part in enumerate(kept):
            if not is_kept(self._deeds[area], part):
                raise BadKept(area)
        left = [left_of(text, deeds, part) for text, deeds, part in zip(self._sure, self._deeds, kept)]
        self._texts = [text[:self.room] for text in left]
        self.sure()

    def copy(self):
        """Another Disk alike, with the same open deeds, that goes on apart."""
        told = Disk(len(self._texts), self.room)
        told._texts = list(self._texts)
        told._sure = list(self._sure)
        told._deeds = [list(deeds) for deeds in self._deeds]
        return told


def is_kept(deeds, thing):
    """Whether a thing is a triple (deeds, signs, tail) that tells what may be kept of an area with these open deeds."""
    if not is_tuple_of(thing, 3, 3):
        return False
    many, signs, tail = thing
    if not is_number(many) or many > len(deeds) or not is_number(signs):
        return False
    if signs > 0 and not is_part_of(deeds[many:many + 1], signs):
        return False
    if not is_line(tail) or len(tail) > LONGEST_TAIL:
        return False
    return tail == "" or any([deed is not None for deed in deeds])


def is_part_of(following, signs):
    """Whether the next of the deeds, if there is one, is a put of more than so many signs."""
    return len(following) == 1 and following[0] is not None and signs < len(following[0])


def left_of(text, deeds, part):
    """What is left of an area in which a text is sure, some deeds are open, and a part of these is kept."""
    many, signs, tail = part
    for deed in deeds[:many]:
        text = "" if deed is None else text + deed
    if signs > 0:
        text += deeds[many][:signs]
    return text + tail


def record(number, body):
    """The line of a number and a body, with the seal by which one sees that it is whole."""
    if not is_integer(number) or not 0 <= number <= GREATEST_NUMBER:
        raise NoNumber()
    if not is_line(body):
        raise NoText()
    sealed = f"{number} {len(body)} {body}"
    return f"{sealed} {mixed(SEAL_PRIME, sealed)}\n"


def records(text):
    """The pair of the list of the pairs (number, body) of the whole records at a text's beginning, one behind another,
    and of how many signs these have."""
    if not is_text(text):
        raise NoText()
    reader = Reader(text)
    told = []
    while True:
        start = reader.at
        try:
            told.append(record_in(reader))
        except NotRead:
            return (told, start)


def record_in(reader):
    """The pair (number, body) of the record that stands here."""
    start = reader.at
    number = read_number(reader, MOST_DIGITS)
    reader.take(" ")
    many = read_number(reader, MOST_DIGITS)
    reader.take(" ")
    body = reader.take_many(many)
    if number > GREATEST_NUMBER or "\n" in body:
        raise NotRead()
    # Numbers with needless zeros are read, too, so the whole line is compared.
    line = record(number, body)
    if reader.text[start:start + len(line)] != line:
        raise NotRead()
    reader.take_many(start + len(line) - reader.at)
    return (number, body)
