"""Houses: they write edits, hear letters, answer clients, and stand on their disks' texts alone."""

from shownviews.asides import Aside
from shownviews.deedtexts import mark_text
from shownviews.disks import LEAST_ROOM, Disk
from shownviews.edits import holds, is_life, lacking
from shownviews.errors import BadStore, Down, NoLetter, NoLife, NoMark, NotYet, TooSmall
from shownviews.holdings import can_be_done, first_body, fresh_holding, has_edit, holding_of, is_entry_done
from shownviews.letters import answers_to_have, have_of, is_letter
from shownviews.mixing import check_prime
from shownviews.papers import answer_of
from shownviews.schemas import check_schema
from shownviews.states import next_edit, tables, titles
from shownviews.stores import Store, begun
from shownviews.texts import edit_text, state_text
from shownviews.views import View

PLAIN = ()


class House:
    """A house with a life of its own, whose State is what it wrote and heard; all is written on its disk first."""

    def __init__(self, life, schema, p, disk):
        if not is_life(life):
            raise NoLife()
        check_schema(schema)
        check_prime(p)
        holding = fresh_holding(life, schema)
        self._schema = schema
        self._p = p
        self._stand(holding, begun(disk, first_body(holding)))

    def _stand(self, holding, store):
        """Goes on from a Holding that stands in a Store."""
        state = holding.state()
        self._holding = holding
        self._store = store
        self._aside = Aside()
        self._faults = []
        self._view = View(self._schema, titles(state), tables(state))
        self._is_down = False

    def life(self):
        self._check_up()
        return self._holding.life()

    def state(self):
        self._check_up()
        return self._holding.state()

    def stands(self):
        """The mark of its State."""
        self._check_up()
        return self._holding.state().mark

    def root(self):
        self._check_up()
        return self._holding.root(self._p)

    def kept(self):
        """The ascending list of the edits that its State has, and that are not forgotten."""
        self._check_up()
        return self._holding.kept()

    def gone(self):
        """The mark of the edits that are forgotten."""
        self._check_up()
        return self._holding.gone()

    def aside(self):
        """The ascending list of the edits that came, and can not be done yet."""
        self._check_up()
        return self._aside.edits()

    def faults(self):
        """The list of the triples (life, mark, number) of roots that were told of its own mark, but are not its own."""
        self._check_up()
        return list(self._faults)

    def rows(self, name):
        self._check_up()
        self._lead_view()
        return self._view.rows(name)

    def looks(self):
        self._check_up()
        self._lead_view()
        return self._view.looks()

    def write(self, token, deed):
        """Writes an edit of its own; tells the pair of its number and of the mark behind it."""
        self._check_up()
        self._check_token(token)
        edit = next_edit(self._holding.state(), self._holding.life(), deed)
        self._enter(f"mine {edit_text(edit)}")
        self._store.sure()
        self._holding.do_edit(edit)
        try:
            self._do_aside()
        except TooSmall:
            # The edit itself is written, so what has no room behind it stays aside.
            pass
        self._store.sure()
        self._lead_view()
        return (edit[1], self.stands())

    def ask(self, token, question):
        """An Answer of its State."""
        self._check_up()
        self._check_token(token)
        told = answer_of(self._p, self._holding.state(), PLAIN, question)
        self._store.sure()
        return told

    def have(self):
        """The letter that tells its mark."""
        self._check_up()
        self._store.sure()
        return have_of(self._holding)

    def hear(self, letter):
        """Does what a letter says; tells the list of the letters by which it is answered."""
        self._check_up()
        if not is_letter(self._schema, letter) or letter[1] == self._holding.life():
            raise NoLetter()
        try:
            told = self._heard(letter)
        except TooSmall:
            # What was done ahead stays done, and who asks where the house stands is told of it.
            self._store.sure()
            raise
        if told:
            self._store.sure()
        self._lead_view()
        return told

    def forget(self, mark):
        """Keeps no edits any more for which a mark stands."""
        self._check_up()
        # This tells NoMark of what is none, too.
        if not holds(self.stands(), mark):
            raise NoMark()
        self._enter(f"gone {mark_text(mark)}")
        self._holding.forget(mark)

    def turn(self):
        """Begins a new generation of its store."""
        self._check_up()
        self._store.turn(first_body(self._holding))

    def fall(self, kept):
        """Falls; its disk keeps what is told, and the House is no use any more."""
        self._check_up()
        self._store.fall(kept)
        self._is_down = True

    def _check_up(self):
        if self._is_down:
            raise Down()

    def _check_token(self, token):
        # This tells NoMark of what is none.
        lacks = lacking(self.stands(), token)
        if lacks:
            raise NotYet(lacks)

    def _enter(self, entry):
        """Puts an entry into the store, ahead of doing it, so that a new generation begins without what it does."""
        self._store.add(entry, self._body_of_now)

    def _body_of_now(self):
        return first_body(self._holding)

    def _heard(self, letter):
        word, life, thing = letter[:3]
        if word == "have":
            return answers_to_have(self._p, self._holding, thing)
        if word == "root":
            if thing == self.stands() and letter[3] != self.root():
                self._faults.append((life, thing, letter[3]))
            return []
        mark = self.stands()
        if word == "state":
            self._enter(f"state {state_text(thing)}")
            self._holding.join(thing)
            self._do_aside()
        else:
            for edit in letter[3]:
                self._take_in(edit)
        return [have_of(self._holding)] if self.stands() != mark else []

    def _take_in(self, edit):
        """Does an edit that comes, and behind it those aside that can be done; or lays it aside itself."""
        mark = self.stands()
        if can_be_done(mark, edit):
            self._do_came(edit)
            self._do_aside()
        elif not has_edit(mark, edit):
            self._aside.lay(edit)

    def _do_came(self, edit):
        # A house that goes on rightly has all edits of its own; one that came would not be read as another's.
        word = "mine" if edit[0] == self._holding.life() else "came"
        self._enter(f"{word} {edit_text(edit)}")
        self._holding.do_edit(edit)

    def _do_aside(self):
        edit = self._aside.next_one(self.stands())
        while edit is not None:
            self._do_came(edit)
            edit = self._aside.next_one(self.stands())

    def _lead_view(self):
        """Leads the View on to the tables and titles of the State."""
        state = self._holding.state()
        ahead = facts_in(self._view.tables())
        behind = facts_in(tables(state))
        gone = [fact for fact in ahead if fact not in behind]
        come = [fact for fact in behind if fact not in ahead]
        if gone or come:
            self._view.change(gone, come)
        book = self._view.book()
        wanted = titles(state)
        for title in sorted({**book, **wanted}):
            if book.get(title) != wanted.get(title):
                self._view.rule(title, wanted.get(title))


def facts_in(rows):
    """The facts of tables, as the keys of a dict."""
    return {(name, row): True for name in rows for row in rows[name]}


def house_at(schema, p, disk):
    """The House whose store stands on a disk."""
    check_schema(schema)
    check_prime(p)
    store = Store(disk)
    holding = holding_of(schema, store.first())
    if holding is None:
        raise BadStore(-1)
    for index, entry in enumerate(store.entries()):
        if not is_entry_done(schema, holding, entry):
            raise BadStore(index)
    # A House that is made begins on its disk, so this one begins on another.
    house = House(holding.life(), schema, p, Disk(2, LEAST_ROOM))
    house._stand(holding, store)
    return house


def house_text(house):
    """The body with which a new generation of a house's store would begin now."""
    house._check_up()
    return first_body(house._holding)


def is_fallen(house):
    return house._is_down
