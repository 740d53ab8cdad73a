"""Worlds: houses with their disks, a bag of letters between them, and clients with tokens."""

from shownviews.disks import Disk
from shownviews.edits import LAST_LIFE, both
from shownviews.errors import BadDeed, NoNumber, NotYet
from shownviews.houses import House, house_at, is_fallen
from shownviews.mixing import check_prime
from shownviews.schemas import check_schema
from shownviews.worths import is_integer, is_name, is_number

MOST_HOUSES = 5
NOTHING_KEPT = (0, 0, "")
# What stands behind the word of each deed.
FORMS = {
    "write": ("house", "client", "thing"),
    "ask": ("house", "client", "thing"),
    "have": ("house", "house"),
    "bring": ("letter",),
    "lose": ("letter",),
    "double": ("letter",),
    "forget": ("house", "thing"),
    "turn": ("house",),
    "fall": ("house", "thing"),
    "open": ("house",),
    "ruin": ("house",),
    "anew": ("house",),
}


class World:
    """Some houses, numbered from 1, that hear of one another by letters alone."""

    def __init__(self, schema, p, many, areas, room):
        check_schema(schema)
        check_prime(p)
        if not is_integer(many) or not 2 <= many <= MOST_HOUSES:
            raise NoNumber()
        self._schema = schema
        self._p = p
        self._areas = areas
        self._room = room
        self._disks = {number: Disk(areas, room) for number in range(1, many + 1)}
        self._houses = {number: House(number, schema, p, self._disks[number]) for number in self._disks}
        self._last_life = many
        self._ruined = {}
        self._bag = []
        self._tokens = {}
        self._told = []

    def do(self, deed):
        """Does a deed, and tells what a client is told by it, None of other deeds."""
        if not self._is_formed(deed):
            raise BadDeed()
        word = deed[0]
        if word in ("write", "ask"):
            return self._serve(deed)
        if word in ("bring", "lose", "double"):
            self._do_letter(word, deed[1])
        elif word in ("open", "ruin", "anew"):
            self._do_down(word, deed[1])
        else:
            self._do_up(deed)
        return None

    def house(self, number):
        """The House of a number, None while it is down."""
        if not self._is_house(number):
            raise NoNumber()
        return self._up(number)

    def bag(self):
        """The list of the pairs (house, letter), the eldest first."""
        return list(self._bag)

    def token(self, client):
        return self._tokens.get(client, ())

    def told(self):
        """The list of the pairs of clients and of what they were told."""
        return list(self._told)

    def quiet(self):
        """Lets all houses hear of one another until nothing is new to any of them; tells how many rounds this took."""
        many = 0
        grown = True
        while grown:
            many += 1
            ahead = self._marks()
            for number in ahead:
                for other in ahead:
                    if other != number:
                        self._bag.append((other, self._houses[number].have()))
            while self._bag:
                self._bring(0)
            grown = self._marks() != ahead
        return many

    def _marks(self):
        """From the numbers of the houses that are up, ascending, to their marks."""
        return {number: self._houses[number].stands() for number in self._houses if self._up(number) is not None}

    def _up(self, number):
        """The house of a number, None while it is down."""
        house = self._houses[number]
        return None if is_fallen(house) else house

    def _is_house(self, thing):
        return is_number(thing) and thing in self._houses

    def _is_formed(self, thing):
        """Whether a thing is a tuple of a word of a deed and of what must stand behind it."""
        if not isinstance(thing, tuple) or not thing or not isinstance(thing[0], str):
            return False
        form = FORMS.get(thing[0])
        if form is None or len(thing) != len(form) + 1:
            return False
        return all([self._is_part(kind, part) for kind, part in zip(form, thing[1:])])

    def _is_part(self, kind, thing):
        if kind == "house":
            return self._is_house(thing)
        if kind == "client":
            return is_name(thing)
        return kind == "thing" or (is_number(thing) and thing < len(self._bag))

    def _serve(self, deed):
        """Lets a client write or ask, and tells what the client is told."""
        told = self._served(deed)
        self._told.append((deed[2], told))
        return told

    def _served(self, deed):
        word, number, client, thing = deed
        house = self._up(number)
        if house is None:
            return ("down", number)
        token = self.token(client)
        try:
            told = house.write(token, thing) if word == "write" else house.ask(token, thing)
        except NotYet as error:
            return ("not yet", number, error.lacking)
        # The mark stands behind the number of a write, and at the beginning of an answer.
        self._tokens[client] = both(token, told[1] if word == "write" else told[0])
        return ("told", number, told)

    def _do_letter(self, word, at):
        if word == "bring":
            self._bring(at)
        elif word == "lose":
            del self._bag[at]
        else:
            self._bag.append(self._bag[at])

    def _bring(self, at):
        """Lets a letter be heard; it stays in the bag if this raises an error, and is lost at a house that is down."""
        number, letter = self._bag[at]
        house = self._up(number)
        answers = [] if house is None else house.hear(letter)
        del self._bag[at]
        writer = self._number_of_life(letter[1])
        if writer is not None:
            self._bag.extend([(writer, answer) for answer in answers])

    def _number_of_life(self, life):
        """The number of the house that is up with a life, None without."""
        for number in self._houses:
            house = self._up(number)
            if house is not None and house.life() == life:
                return number
        return None

    def _do_up(self, deed):
        """A deed of a house that must be up."""
        word, number = deed[:2]
        house = self._up(number)
        if house is None or (word == "have" and deed[2] == number):
            raise BadDeed()
        if word == "have":
            self._bag.append((deed[2], house.have()))
        elif word == "forget":
            house.forget(deed[2])
        elif word == "turn":
            house.turn()
        else:
            house.fall(deed[2])

    def _do_down(self, word, number):
        """A deed by which a house comes up, or is ruined."""
        is_ruined = self._ruined.get(number, False)
        if word == "ruin":
            self._ruin(number, is_ruined)
        elif self._up(number) is not None or is_ruined != (word == "anew"):
            raise BadDeed()
        elif word == "open":
            self._houses[number] = house_at(self._schema, self._p, self._disks[number])
        else:
            self._begin_anew(number)

    def _ruin(self, number, is_ruined):
        if is_ruined:
            raise BadDeed()
        house = self._up(number)
        if house is not None:
            # Who holds this House finds it down, too.
            house.fall((NOTHING_KEPT,) * self._areas)
        self._disks[number] = Disk(self._areas, self._room)
        self._ruined[number] = True

    def _begin_anew(self, number):
        # Lives are told in order, so the least one that no house had is the next.
        if self._last_life == LAST_LIFE:
            raise BadDeed()
        self._houses[number] = House(self._last_life + 1, self._schema, self._p, self._disks[number])
        self._last_life += 1
        self._ruined[number] = False
