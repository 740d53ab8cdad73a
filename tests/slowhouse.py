"""A house straight from the words of the document: it keeps marks alone, as all edits are known from elsewhere."""

from shownviews.errors import TooSmall
from shownviews.papers import answer_of
from shownviews.roots import root_number
from shownviews.states import next_edit
from tests.helpers import saw, state_from
from tests.test_disks import slow_record
from tests.test_texts import slow_edit, slow_mark, slow_state_text


def pieces(texts):
    return "".join(f"{len(text)}:{text}" for text in texts)


def by_rank(edits):
    return sorted(edits, key=lambda edit: (edit[2], edit[0], edit[1]))


def has(mark, edit):
    return saw(mark, edit[0], edit[1])


def holds(mark, other):
    return all(saw(mark, life, number) for life, number in other)


def both(mark, other):
    numbers = dict(mark)
    for life, number in other:
        numbers[life] = max(number, numbers.get(life, 0))
    return tuple(sorted(numbers.items()))


class Register:
    """All edits that were ever written, and the States of marks."""

    def __init__(self):
        self.edits = []
        self._states = {}

    def of(self, mark):
        return [edit for edit in self.edits if has(mark, edit)]

    def state(self, mark):
        if mark not in self._states:
            self._states[mark] = state_from(by_rank(self.of(mark)))
        return self._states[mark]


class SlowHouse:
    def __init__(self, life, p, areas, room, register):
        self.life, self.p, self.room, self.register = life, p, room, register
        self.mark, self.gone, self.aside, self.faults = (), (), [], []
        self.texts = [""] * areas
        self.area, self.number = areas - 1, 0
        self.turn()

    def state(self):
        return self.register.state(self.mark)

    def root(self):
        return root_number(self.p, self.state())

    def kept(self):
        return sorted([edit for edit in self.register.of(self.mark) if not has(self.gone, edit)],
                      key=lambda edit: edit[:2])

    def first(self):
        return pieces([str(self.life), slow_state_text(self.state()), slow_mark(self.gone),
                       *map(slow_edit, self.kept())])

    def turn(self, more=0):
        line = slow_record(self.number + 1, "first " + self.first())
        if len(line) + more > self.room:
            raise TooSmall()
        self.number += 1
        self.area = (self.area + 1) % len(self.texts)
        self.texts[self.area] = line
        # What the house was at the beginning of the generation, and behind each entry.
        self.moments = [(self.mark, self.gone)]
        self.clean = True

    def enter(self, entry, mark, gone):
        line = slow_record(len(self.moments), entry)
        if not self.clean or len(self.texts[self.area]) + len(line) > self.room:
            line = slow_record(1, entry)
            self.turn(len(line))
        self.texts[self.area] += line
        self.mark, self.gone = mark, gone
        self.moments.append((mark, gone))

    def do(self, edit, word):
        self.enter(f"{word} {slow_edit(edit)}", both(self.mark, ((edit[0], edit[1]),)), self.gone)
        self.aside = [other for other in self.aside if not has(self.mark, other)]

    def do_aside(self):
        ready = [edit for edit in by_rank(self.aside) if holds(self.mark, edit[3])]
        while ready:
            self.do(ready[0], "came")
            ready = [edit for edit in by_rank(self.aside) if holds(self.mark, edit[3])]

    def write(self, deed):
        edit = next_edit(self.state(), self.life, deed)
        self.register.edits.append(edit)
        try:
            self.do(edit, "mine")
        except TooSmall:
            self.register.edits.remove(edit)
            raise
        return (edit[1], self.mark)

    def ask(self, question):
        return answer_of(self.p, self.state(), (), question)

    def have(self):
        return ("have", self.life, self.mark)

    def hear(self, letter):
        word, life, thing = letter[:3]
        if word == "have":
            return self.answers(thing)
        if word == "root":
            if thing == self.mark and letter[3] != self.root():
                self.faults.append((life, thing, letter[3]))
            return []
        before = self.mark
        if word == "state":
            mark = thing.mark
            self.enter(f"state {slow_state_text(thing)}", both(self.mark, mark), both(self.gone, mark))
            self.aside = [edit for edit in self.aside if not has(self.mark, edit)]
            self.do_aside()
        else:
            for edit in letter[3]:
                self.come(edit)
        return [self.have()] if self.mark != before else []

    def come(self, edit):
        if has(self.mark, edit):
            return
        if holds(self.mark, edit[3]):
            self.do(edit, "came")
            self.do_aside()
        elif edit not in self.aside:
            self.aside.append(edit)
            self.aside = by_rank(self.aside)[:100]

    def answers(self, mark):
        lacked = by_rank([edit for edit in self.kept() if not has(mark, edit)])
        if not holds(mark, self.gone):
            return [("state", self.life, self.state())]
        if lacked:
            return [("edits", self.life, self.mark, tuple(lacked[:20]))]
        if mark == self.mark:
            return [("root", self.life, self.mark, self.root())]
        return [] if holds(self.mark, mark) else [self.have()]

    def forget(self, mark):
        self.enter(f"gone {slow_mark(mark)}", self.mark, both(self.gone, mark))

    def fell(self, texts):
        """Goes on from the texts that a fall left on its disk."""
        self.texts = list(texts)
        self.aside, self.faults = [], []
        text = texts[self.area]
        left = text.count("\n") - 1
        self.moments = self.moments[:left + 1]
        self.mark, self.gone = self.moments[-1]
        self.clean = text.endswith("\n")

    def told(self):
        return (self.life, self.state(), self.mark, self.root(), self.kept(), self.gone,
                sorted(self.aside, key=lambda edit: edit[:2]), self.faults)


def told_by(house):
    return (house.life(), house.state(), house.stands(), house.root(), house.kept(), house.gone(), house.aside(),
            house.faults())
