"""Points 7.7 and 7.8: worlds of houses, letters and clients, and the facts of them."""

import unittest

from shownviews.disks import Disk
from shownviews.edits import lacking
from shownviews.errors import (BadDeed, BadDisk, BadKept, Down, NoDeed, NoMark, NoNumber, NoPattern, NoPrime, NoSchema,
                               TooSmall)
from shownviews.houses import House, house_at
from shownviews.papers import judge
from shownviews.states import State
from shownviews.stores import Store
from shownviews.worlds import World
from tests.helpers import FAR, NEAR, S, chances, odd_things, random_deed, saw
from tests.slowhouse import Register, SlowHouse, both, holds, told_by
from tests.test_disks import field, some_kept
from tests.test_mixing import not_primes
from tests.test_papers import is_pattern

P = 2 ** 61 - 1
NOTHING = (0, 0, "")
BRING = ("bring", "link", ("a", "b"))
ASK = ("link", (None, None))
WORDS = ("write", "ask", "have", "bring", "lose", "double", "forget", "turn", "fall", "open", "ruin", "anew")


def world_of(many=3, areas=2, room=20000):
    return World(S, P, many, areas, room)


def marks(world, many=3):
    return [world.house(n).stands() if world.house(n) else None for n in range(1, many + 1)]


class Made(unittest.TestCase):
    def test_houses_with_lives(self):
        for many in (2, 3, 4, 5):
            world = world_of(many)
            self.assertEqual((world.bag(), world.told(), world.token("ann")), ([], [], ()))
            for n in range(1, many + 1):
                self.assertIs(type(world.house(n)), House)
                self.assertIs(world.house(n), world.house(n))
                self.assertEqual(told_by(world.house(n))[:4], (n, State(S), (), world.house(1).root()))
            for wrong in (0, many + 1, -1, True, None, "1", 10 ** 39, (1,)):
                self.assertRaises(NoNumber, world.house, wrong)

    def test_errors(self):
        for thing in odd_things():
            if thing != S:
                self.assertRaises(NoSchema, World, thing, None, None, None, None)
            if type(thing) is not int or not 2 <= thing <= 5:
                self.assertRaises(NoNumber, World, S, P, thing, None, None)
            self.assertEqual(field(self, BadDisk, World, S, P, 2, thing, thing), {"part": "areas"})
            self.assertEqual(field(self, BadDisk, World, S, P, 2, 2, thing), {"part": "room"})
        for thing in not_primes():
            self.assertRaises(NoPrime, World, S, thing, None, None, None)
        for many in (1, 6, 0, -2, True, None, "2", 2.0):
            self.assertRaises(NoNumber, World, S, P, many, 1, 1)
        for areas, room, part in ((1, 200, "areas"), (7, 1, "areas"), (2, 199, "room"), (2, 200001, "room")):
            self.assertEqual(field(self, BadDisk, World, S, P, 2, areas, room), {"part": part})
        world = world_of()
        for thing in odd_things():
            if thing != 1 or thing is True:
                self.assertRaises(NoNumber, world.house, thing)


class Deeds(unittest.TestCase):
    def test_writes_and_asks(self):
        world = world_of()
        self.assertEqual(world.do(("write", 1, "ann", BRING)), ("told", 1, (1, ((1, 1),))))
        self.assertEqual(world.token("ann"), ((1, 1),))
        self.assertEqual(world.do(("write", 2, "ann", BRING)), ("not yet", 2, ((1, 1, 1),)))
        self.assertEqual(world.do(("ask", 2, "ann", ASK)), ("not yet", 2, ((1, 1, 1),)))
        self.assertEqual(world.do(("write", 2, "bob", BRING)), ("told", 2, (1, ((2, 1),))))
        told = world.do(("ask", 1, "cas", ASK))
        self.assertEqual(told, ("told", 1, world.house(1).ask((), ASK)))
        self.assertEqual((world.token("bob"), world.token("cas"), world.token("dan")), (((2, 1),), ((1, 1),), ()))
        self.assertIsNone(world.do(("fall", 2, (NOTHING, NOTHING))))
        self.assertEqual(world.do(("ask", 2, "bob", ASK)), ("down", 2))
        self.assertEqual(world.do(("write", 2, "ann", None)), ("down", 2))
        self.assertEqual(world.do(("ask", 2, "ann", None)), ("down", 2))
        self.assertEqual(world.token("ann"), ((1, 1),))
        self.assertEqual(world.told(), [("ann", ("told", 1, (1, ((1, 1),)))), ("ann", ("not yet", 2, ((1, 1, 1),))),
                                        ("ann", ("not yet", 2, ((1, 1, 1),))),
                                        ("bob", ("told", 2, (1, ((2, 1),)))), ("cas", told), ("bob", ("down", 2)),
                                        ("ann", ("down", 2)), ("ann", ("down", 2))])

    def test_errors_of_deeds_and_questions(self):
        world = world_of()
        world.do(("write", 1, "ann", BRING))
        kept = (world.told(), world.token("ann"), world.bag(), marks(world))
        for thing in odd_things():
            if not (type(thing) is tuple and thing[:1] == ("unrule",) and len(thing) == 2):
                self.assertRaises(NoDeed, world.do, ("write", 1, "ann", thing))
            if not is_pattern(thing):
                self.assertRaises(NoPattern, world.do, ("ask", 1, "ann", thing))
            # What is lacking is told ahead of what is wrong.
            self.assertEqual(world.do(("write", 2, "ann", thing))[0], "not yet")
        self.assertEqual((world.token("ann"), world.bag(), marks(world)), kept[1:])
        self.assertEqual([told for told in world.told() if told[1][0] != "not yet"], kept[0])

    def test_letters(self):
        world = world_of()
        world.do(("write", 1, "ann", BRING))
        self.assertIsNone(world.do(("have", 2, 1)))
        self.assertEqual(world.bag(), [(1, ("have", 2, ()))])
        world.do(("have", 3, 1))
        self.assertIsNone(world.do(("double", 0)))
        self.assertEqual(world.bag(), [(1, ("have", 2, ())), (1, ("have", 3, ())), (1, ("have", 2, ()))])
        self.assertIsNone(world.do(("lose", 1)))
        self.assertIsNone(world.do(("bring", 0)))
        edits = ("edits", 1, ((1, 1),), tuple(world.house(1).kept()))
        self.assertEqual(world.bag(), [(1, ("have", 2, ())), (2, edits)])
        world.do(("bring", 1))
        self.assertEqual(world.bag(), [(1, ("have", 2, ())), (1, ("have", 2, ((1, 1),)))])
        world.do(("bring", 1))
        root = world.house(1).root()
        self.assertEqual(world.bag(), [(1, ("have", 2, ())), (2, ("root", 1, ((1, 1),), root))])
        world.do(("bring", 1))
        world.do(("bring", 0))
        self.assertEqual(world.bag(), [(2, edits)])
        world.do(("bring", 0))
        self.assertEqual((world.bag(), marks(world), world.house(2).faults()), ([], [((1, 1),), ((1, 1),), ()], []))

    def test_letters_to_and_from_houses_that_are_down(self):
        world = world_of()
        world.do(("write", 1, "ann", BRING))
        world.do(("have", 2, 1))
        world.do(("have", 1, 2))
        world.do(("fall", 2, (NOTHING, NOTHING)))
        # Its answers are lost, and what comes to it is.
        world.do(("bring", 0))
        self.assertEqual(world.bag(), [(2, ("have", 1, ((1, 1),)))])
        world.do(("have", 3, 2))
        world.do(("bring", 0))
        self.assertEqual(world.bag(), [(2, ("have", 3, ()))])
        world.do(("open", 2))
        world.do(("bring", 0))
        self.assertEqual(world.bag(), [(3, ("root", 2, (), world.house(2).root()))])
        world.do(("bring", 0))
        self.assertEqual(world.bag(), [])
        # A house that begins anew has another life; answers to the elder one are lost.
        world.do(("have", 2, 1))
        world.do(("ruin", 2))
        world.do(("anew", 2))
        world.do(("bring", 0))
        self.assertEqual(world.bag(), [])
        world.do(("have", 2, 1))
        self.assertEqual(world.bag(), [(1, ("have", 4, ()))])
        world.do(("bring", 0))
        self.assertEqual(world.bag()[0][0], 2)

    def test_falls_ruins_and_new_beginnings(self):
        world = world_of(2)
        world.do(("write", 1, "ann", BRING))
        house = world.house(1)
        world.do(("fall", 1, (NOTHING, NOTHING)))
        self.assertIsNone(world.house(1))
        self.assertRaises(Down, house.stands)
        world.do(("open", 1))
        self.assertEqual(told_by(world.house(1))[:3], (1, world.house(1).state(), ((1, 1),)))
        house = world.house(1)
        self.assertIsNone(world.do(("ruin", 1)))
        self.assertIsNone(world.house(1))
        self.assertRaises(Down, house.stands)
        self.assertIsNone(world.do(("anew", 1)))
        self.assertEqual(told_by(world.house(1))[:3], (3, State(S), ()))
        world.do(("fall", 2, (NOTHING, NOTHING)))
        world.do(("ruin", 2))
        world.do(("ruin", 1))
        world.do(("anew", 2))
        world.do(("anew", 1))
        self.assertEqual([world.house(n).life() for n in (1, 2)], [5, 4])
        self.assertEqual(world.do(("write", 1, "ann", BRING)), ("not yet", 1, ((1, 1, 1),)))

    def test_turn_and_forget(self):
        world = world_of(2)
        world.do(("write", 1, "ann", BRING))
        self.assertIsNone(world.do(("turn", 1)))
        self.assertIsNone(world.do(("forget", 1, ((1, 1),))))
        self.assertEqual(world.house(1).gone(), ((1, 1),))
        for mark in (((1, 2),), None, [(1, 1)], ((2, 1),)):
            self.assertRaises(NoMark, world.do, ("forget", 1, mark))
        for kept in (None, (), ((5, 0, ""), NOTHING)):
            self.assertRaises(BadKept, world.do, ("fall", 1, kept))
        self.assertEqual(marks(world, 2), [((1, 1),), ()])
        world.do(("have", 2, 1))
        world.do(("bring", 0))
        self.assertEqual(world.bag(), [(2, ("state", 1, world.house(1).state()))])

    def bad(self, world, *deeds):
        kept = (world.bag(), world.told(), marks(world))
        for deed in deeds:
            with self.assertRaises(BadDeed, msg=repr(deed)[:200]):
                world.do(deed)
        self.assertEqual((world.bag(), world.told(), marks(world)), kept)

    def test_bad_deeds(self):
        world = world_of()
        world.do(("have", 1, 2))
        houses = (0, 4, -1, True, None, "1", 1.0, (1,), 10 ** 39)
        for wrong in houses:
            self.bad(world, ("write", wrong, "ann", BRING), ("ask", wrong, "ann", ASK), ("have", wrong, 2),
                     ("have", 1, wrong), ("forget", wrong, ()),
                     ("turn", wrong), ("fall", wrong, (NOTHING, NOTHING)), ("open", wrong), ("ruin", wrong),
                     ("anew", wrong))
        for client in ("", "Ann", "abcdefghi", "a b", None, 1, ("ann",), b"ann", True):
            self.bad(world, ("write", 1, client, BRING), ("ask", 1, client, ASK))
        for at in (1, -1, True, False, None, "0", 10 ** 39, (0,)):
            self.bad(world, ("bring", at), ("lose", at), ("double", at))
        self.bad(world, ("have", 1, 1), ("open", 1), ("anew", 1), None, (), ("write",), ("write", 1, "ann"),
                 ("write", 1, "ann", BRING, 1), ("ask", 1, "ann"),
                 ("have", 1), ("have", 1, 2, 3), ("bring",), ("bring", 0, 0), ("lose",), ("double",), ("forget", 1),
                 ("turn",), ("turn", 1, 1), ("fall", 1), ("open",),
                 ("open", 1, 1), ("ruin",), ("anew",), ["turn", 1], ("Turn", 1), ("quiet",), ("house", 1), "turn",
                 {"turn": 1}, (("turn", 1),), ("told",), (None, 1), ((), 1))
        for thing in odd_things():
            self.bad(world, (thing, 1), (thing, 1, "ann", BRING), (thing, 1, ()))
            if type(thing) is not tuple or thing[:1] != ("bring",):
                self.bad(world, thing)
            if thing != 1 or thing is True:
                self.bad(world, *[(word, thing) for word in ("turn", "open", "ruin", "anew")],
                         ("have", 1, thing if thing not in (2, 3) else 1), ("write", thing, "ann", BRING))
            if thing != 0 or thing is False:
                self.bad(world, *[(word, thing) for word in ("bring", "lose", "double")])
            if thing not in ("a", "link", "rule"):
                self.bad(world, ("ask", 1, thing, ASK), ("write", 1, thing, None))

    def test_what_can_not_be_done(self):
        world = world_of()
        world.do(("fall", 1, (NOTHING, NOTHING)))
        self.bad(world, ("have", 1, 2), ("forget", 1, None), ("forget", 1, ()), ("turn", 1), ("fall", 1, None),
                 ("fall", 1, (NOTHING, NOTHING)), ("anew", 1))
        world.do(("have", 2, 1))
        world.do(("ruin", 1))
        self.bad(world, ("open", 1), ("ruin", 1), ("have", 1, 2), ("forget", 1, ()), ("turn", 1),
                 ("fall", 1, (NOTHING, NOTHING)))
        self.assertEqual(world.do(("ask", 1, "ann", ASK)), ("down", 1))
        world.do(("anew", 1))
        self.bad(world, ("anew", 1), ("open", 1))
        world.do(("turn", 1))

    def test_no_more_lives(self):
        world = world_of(2, room=200)
        for life in range(3, 1000):
            world.do(("ruin", 1))
            world.do(("anew", 1))
        self.assertEqual(world.house(1).life(), 999)
        world.do(("ruin", 1))
        self.assertRaises(BadDeed, world.do, ("anew", 1))
        self.assertIsNone(world.house(1))

    def test_too_small(self):
        world = world_of(2, room=500)
        many = 0
        with self.assertRaises(TooSmall):
            while True:
                world.do(("write", 1, "ann", ("put", "name", (f"k{many:02}", "v" * 20))))
                many += 1
        self.assertEqual((len(world.told()), world.token("ann")), (many, ((1, many),)))
        world.do(("write", 2, "bob", ("put", "name", ("x", "v" * 20))))
        world.do(("write", 2, "bob", ("put", "name", ("y", "v" * 20))))
        world.do(("have", 2, 1))
        world.do(("bring", 0))
        # The letter whose hearing raises stays in the bag, what was heard ahead stays heard.
        letter = world.bag()
        self.assertEqual(letter[0][1][0], "edits")
        self.assertRaises(TooSmall, world.do, ("bring", 0))
        self.assertEqual(world.bag(), letter)
        grown = world.house(2).stands()
        self.assertNotEqual(grown, ((2, 2),))
        self.assertRaises(TooSmall, world.quiet)
        self.assertTrue(holds(world.house(2).stands(), grown))
        self.assertIn(letter[0], world.bag())
        self.assertEqual([world.house(n).faults() for n in (1, 2)], [[], []])

    def test_lists_are_new(self):
        world = world_of()
        world.do(("write", 1, "ann", BRING))
        world.do(("have", 1, 2))
        for call in (world.bag, world.told):
            told = call()
            wanted = list(told)
            told.clear()
            self.assertEqual(call(), wanted)

    def test_houses_that_fell_by_themselves_are_down(self):
        world = world_of()
        world.house(1).fall((NOTHING, NOTHING))
        self.assertIsNone(world.house(1))
        self.assertEqual(world.do(("ask", 1, "ann", ASK)), ("down", 1))
        world.do(("open", 1))
        self.assertEqual(world.house(1).stands(), ())


class Quiet(unittest.TestCase):
    def test_rounds(self):
        for many in (2, 3, 4, 5):
            world = world_of(many)
            self.assertEqual(world.quiet(), 1)
            for n in range(1, many + 1):
                for at in range(20):
                    world.do(("write", n, "abcde"[n - 1], ("put", "name", (f"k{at}", str(n)))))
            self.assertEqual(world.quiet(), 2)
            self.assertEqual(len({str(mark) for mark in marks(world, many)}), 1)
            self.assertEqual(world.bag(), [])
            self.assertEqual(world.quiet(), 1)

    def test_more_than_twenty_edits(self):
        world = world_of(3, room=200000)
        for at in range(130):
            world.do(("write", 1, "ann", ("put", "name", (f"k{at}", "v"))))
        self.assertEqual(world.quiet(), 2)
        self.assertEqual(marks(world), [((1, 130),)] * 3)

    def test_houses_that_are_down_are_left_out(self):
        world = world_of()
        world.do(("write", 1, "ann", BRING))
        world.do(("write", 3, "bob", BRING))
        world.do(("fall", 3, (NOTHING, NOTHING)))
        self.assertEqual(world.quiet(), 2)
        self.assertEqual(marks(world), [((1, 1),), ((1, 1),), None])
        world.do(("fall", 2, (NOTHING, NOTHING)))
        self.assertEqual(world.quiet(), 1)
        world.do(("open", 3))
        self.assertEqual(world.quiet(), 2)
        self.assertEqual(marks(world), [((1, 1), (3, 1)), None, ((1, 1), (3, 1))])

    def test_what_lay_in_the_bag_goes_ahead(self):
        world = world_of(2)
        world.do(("have", 2, 1))
        world.do(("write", 1, "ann", BRING))
        self.assertEqual(world.quiet(), 2)
        self.assertEqual((world.bag(), marks(world, 2)), ([], [((1, 1),), ((1, 1),)]))
        world.do(("have", 2, 1))
        for n in (1, 2):
            world.do(("fall", n, (NOTHING, NOTHING)))
        self.assertEqual(world.quiet(), 1)
        self.assertEqual(world.bag(), [])


class SlowWorld:
    """A world straight from the words, of SlowHouses."""

    def __init__(self, many, areas, room):
        self.register = Register()
        self.many, self.areas, self.room = many, areas, room
        self.houses = {n: SlowHouse(n, P, areas, room, self.register) for n in range(1, many + 1)}
        self.up = {n: True for n in self.houses}
        self.ruined = {n: False for n in self.houses}
        self.lives = many
        self.bag, self.tokens, self.told = [], {}, []

    def serve(self, word, n, client, thing):
        house, token = self.houses[n], self.tokens.get(client, ())
        if not self.up[n]:
            told = ("down", n)
        elif not holds(house.mark, token):
            told = ("not yet", n, lacking(house.mark, token))
        else:
            it = house.write(thing) if word == "write" else house.ask(thing)
            self.tokens[client] = both(token, house.mark)
            told = ("told", n, it)
        self.told.append((client, told))
        return told

    def bring(self, at):
        to, letter = self.bag[at]
        answers = self.houses[to].hear(letter) if self.up[to] else []
        self.bag.pop(at)
        for n, house in self.houses.items():
            if self.up[n] and house.life == letter[1]:
                self.bag += [(n, answer) for answer in answers]

    def quiet(self):
        rounds = 0
        while True:
            rounds += 1
            ahead = {n: house.mark for n, house in self.houses.items() if self.up[n]}
            self.bag += [(other, self.houses[n].have()) for n in ahead for other in ahead if other != n]
            while self.bag:
                self.bring(0)
            if ahead == {n: house.mark for n, house in self.houses.items() if self.up[n]}:
                return rounds

    def do(self, deed):
        word, n = deed[:2]
        if word in ("write", "ask"):
            return self.serve(*deed)
        if word == "have":
            self.bag.append((deed[2], self.houses[n].have()))
        if word == "bring":
            self.bring(n)
        if word == "lose":
            self.bag.pop(n)
        if word == "double":
            self.bag.append(self.bag[n])
        if word == "forget":
            self.houses[n].forget(deed[2])
        if word == "turn":
            self.houses[n].turn()
        if word == "ruin":
            self.up[n], self.ruined[n] = False, True
        if word == "anew":
            self.lives += 1
            self.houses[n] = SlowHouse(self.lives, P, self.areas, self.room, self.register)
            self.up[n], self.ruined[n] = True, False
        return None


class Facts(unittest.TestCase):
    """Lives by chance, compared with a slow world; and the facts (1) to (5)."""

    def some_deed(self, chance, slow):
        n = chance.randrange(1, slow.many + 1)
        client = chance.choice(["ann", "bob", "cas"])
        word = chance.choice(["write"] * 5 + ["ask"] * 3 + ["have"] * 4 + ["bring"] * 8 + ["lose", "double", "double",
                                                                                           "forget", "turn", "fall",
                                                                                           "open", "open", "ruin",
                                                                                           "anew", "anew"])
        if word == "ruin" and chance.random() < 0.7:
            word = "have"
        if word in ("bring", "lose", "double"):
            return (word, chance.randrange(len(slow.bag))) if slow.bag else None
        if word == "write":
            return (word, n, client, random_deed(chance))
        if word == "ask":
            return (word, n, client,
                    chance.choice([("near", (None, None)), ("near", ("a", None)), ("link", (None, "b")),
                                   ("stock", ("k", None)), ("none", (1,))]))
        if word in ("open", "anew", "ruin"):
            fine = {"open": not slow.up[n] and not slow.ruined[n], "anew": slow.ruined[n],
                    "ruin": not slow.ruined[n]}[word]
            return (word, n) if fine else None
        if not slow.up[n]:
            return None
        if word == "have":
            return (word, n, chance.choice([other for other in slow.houses if other != n]))
        if word == "forget":
            return (word, n, tuple(pair for pair in slow.houses[n].mark if chance.random() < 0.5))
        return (word, n)

    def disk_of(self, world, n):
        return world._disks[n]

    def test_lives(self):
        seen = dict.fromkeys(["told", "down", "not yet", "fall", "open", "ruin", "anew", "small", "quiet", "forget"], 0)
        for chance in chances(45):
            many = chance.randrange(2, 6)
            room = chance.choice([420, 600, 3000, 200000, 200000])
            areas = chance.choice([2, 3])
            world, slow = World(S, P, many, areas, room), SlowWorld(many, areas, room)
            self.life(chance, world, slow, seen)
        self.assertGreater(min(seen.values()), 8, seen)

    def life(self, chance, world, slow, seen):
        roots = {}
        for step in range(120):
            deed = self.some_deed(chance, slow)
            if deed is None:
                continue
            tokens = dict(slow.tokens)
            if deed[0] == "fall":
                n = deed[1]
                deed = (*deed, tuple(some_kept(chance, deeds) for deeds in self.disk_of(world, n).open_deeds()))
                world.do(deed)
                slow.up[n] = False
                slow.houses[n].fell(self.disk_of(world, n).texts())
            elif deed[0] == "open":
                world.do(deed)
                slow.up[deed[1]] = True
            else:
                told = self.both(world, slow, deed, seen)
                if deed[0] in ("write", "ask") and told is not None:
                    seen[told[0]] += 1
                    # (1) What a client is told is of a mark that holds its token then.
                    if told[0] == "told":
                        mark = told[2][1] if deed[0] == "write" else told[2][0]
                        self.assertTrue(holds(mark, tokens.get(deed[2], ())))
                        self.assertTrue(holds(world.token(deed[2]), tokens.get(deed[2], ())))
                    if told[0] == "told" and deed[0] == "ask":
                        house = world.house(deed[1])
                        self.assertTrue(judge(S, P, house.root(), deed[3], told[2]))
            if deed[0] in seen:
                seen[deed[0]] += 1
            if chance.random() < 0.03:
                self.both_quiet(world, slow, seen)
            self.alike(world, slow)
            self.two_of_one_mark(world, slow, roots)
        self.stands_somewhere(world, slow)
        self.at_the_end(chance, world, slow)

    def both(self, world, slow, deed, seen):
        try:
            told = world.do(deed)
        except TooSmall:
            seen["small"] += 1
            self.assertRaises(TooSmall, slow.do, deed)
            return None
        self.assertEqual(told, slow.do(deed))
        return told

    def both_quiet(self, world, slow, seen):
        try:
            rounds = world.quiet()
        except TooSmall:
            self.assertRaises(TooSmall, slow.quiet)
            return
        self.assertEqual(rounds, slow.quiet())
        seen["quiet"] += 1

    def alike(self, world, slow):
        self.assertEqual(world.bag(), slow.bag)
        self.assertEqual(world.told(), slow.told)
        for client in ("ann", "bob", "cas", "dan"):
            self.assertEqual(world.token(client), slow.tokens.get(client, ()))
        for n, house in slow.houses.items():
            if slow.up[n]:
                self.assertEqual(told_by(world.house(n)), house.told())
                self.assertEqual(self.disk_of(world, n).texts(), tuple(house.texts))
                # (5) Nobody finds a fault.
                self.assertEqual(world.house(n).faults(), [])
            else:
                self.assertIsNone(world.house(n))

    def two_of_one_mark(self, world, slow, roots):
        """(2) Two houses of one mark, whenever, have equal states, roots and answers."""
        question = ("near", (None, None))
        for n in slow.houses:
            house = world.house(n)
            if house is not None:
                told = roots.setdefault(house.stands(), (house.state(), house.root(), house.ask((), question)))
                self.assertEqual(told[:2], (house.state(), house.root()))
        for n in slow.houses:
            house = world.house(n)
            if house is not None:
                self.assertEqual(roots[house.stands()][2], house.ask((), question))

    def stands_somewhere(self, world, slow):
        """(3) Each edit that was told is in the state of some house, or on some disk, unless disks were ruined."""
        if any(slow.ruined.values()) or slow.lives > slow.many:
            return
        told = [(slow.houses[it[1]].life, it[2][0]) for _, it in world.told() if it[0] == "told"
                and type(it[2][0]) is int]
        lasting = []
        for n in slow.houses:
            house = world.house(n) or house_at(S, P, self.disk_of(world, n).copy())
            lasting.append(house.stands())
        for life, number in told:
            self.assertTrue(any(saw(mark, life, number) for mark in lasting))

    def at_the_end(self, chance, world, slow):
        """(4) Where all are up and the stores have the room, quiet comes to one mark, state and root."""
        for n in slow.houses:
            if slow.ruined[n]:
                world.do(("anew", n))
            elif not slow.up[n]:
                world.do(("open", n))
        while world.bag():
            world.do(("lose", 0))
        stand = [world.house(n).stands() for n in slow.houses]
        lacks = max(sum(last - first + 1 for _, first, last in lacking(one, other)) for one in stand for other in stand)
        if slow.room < 200000:
            return
        rounds = world.quiet()
        self.assertEqual(len({str((world.house(n).stands(), world.house(n).root())) for n in slow.houses}), 1)
        for n in slow.houses:
            self.assertEqual(world.house(n).state(), world.house(1).state())
            self.assertEqual(world.house(n).faults(), [])
        if lacks <= 20:
            self.assertLessEqual(rounds, 2)
        self.assertEqual(world.quiet(), 1)

    def test_tokens_only_grow(self):
        for chance in chances(10):
            world = world_of()
            for client, at in [(chance.choice(["ann", "bob"]), chance.randrange(1, 4)) for _ in range(60)]:
                before = world.token(client)
                world.do(chance.choice([("write", at, client, random_deed(chance)), ("ask", at, client, ASK)]))
                self.assertTrue(holds(world.token(client), before))
                if chance.random() < 0.2:
                    world.quiet()

    def test_worlds_with_rules(self):
        world = world_of()
        for at, deed in enumerate([("rule", "one", NEAR), ("rule", "two", FAR), BRING, ("bring", "link", ("b", "c"))]):
            world.do(("write", at % 3 + 1, "abcd"[at], deed))
        world.quiet()
        for n in (1, 2, 3):
            self.assertEqual(world.do(("ask", n, "ann", ("near", ("a", None))))[2][1], (("a", "b"), ("a", "c")))
            self.assertEqual(world.house(n).rows("near"), (("a", "b"), ("a", "c"), ("b", "c")))

    def test_a_state_handed_in_bent_is_found(self):
        world = world_of(2)
        world.do(("write", 1, "ann", BRING))
        other = World(S, P, 2, 2, 20000)
        other.do(("write", 1, "ann", ("bring", "link", ("x", "y"))))
        world.house(2).hear(("state", 1, other.house(1).state()))
        world.quiet()
        self.assertEqual(marks(world, 2), [((1, 1),)] * 2)
        self.assertTrue(world.house(1).faults() and world.house(2).faults())

    def test_disks_are_apart(self):
        world = world_of(2)
        world.do(("write", 1, "ann", BRING))
        disks = [self.disk_of(world, n) for n in (1, 2)]
        self.assertTrue(all(isinstance(disk, Disk) for disk in disks))
        self.assertEqual([len(Store(disk).entries()) for disk in disks], [1, 0])
