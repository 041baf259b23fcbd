"""[8] and [9]: a keeper, and what was done again."""

import random
import unittest

from pushdoors.errors import BadCount, BadDeed, BadHouse, DoorError, NoDoor
from pushdoors.far import after, left
from pushdoors.keepers import Keeper, again
from tests.support import BAD_HOUSE, FAR, HOUSES, NESTED, doors_of, frozen, made_houses, plain_walk, thawed
from tests.support import thawed_at, thawed_door

HOUSE = (0, ((2, 1, (1, ((1, 0, "in"), (3, 3, "deep")))), (1, 0, "out"), (4, 4, "in")))
CHANGES = ("walk", "send", "renew", "turn", "shut", "unlatch")


class PlainKeeper:
    """A keeping of the test's own; each method tells what's told, or the refusal."""

    def __init__(self, house):
        self.room = thawed(house)
        self.came = self.out = 0
        self.done = []

    def walk(self):
        told = plain_walk(self.room)
        self.came += 1
        self.out += told[0] == "out"
        return told

    def send(self, many):
        if not 0 <= many <= FAR:
            return BadCount
        before = frozen(self.room)
        out = left(before, many)
        self.room = thawed(after(before, many))
        self.came += many
        self.out += out
        return out

    def renew(self, path, need):
        door = thawed_door(self.room, path)
        if door is None:
            return NoDoor
        if need not in range(1, 100) or door[1] < door[0] and need <= door[1]:
            return BadCount
        if door[0] == door[1]:
            door[1] = need
        door[0] = need

    def turn(self, path, hand):
        room = thawed_at(self.room, path)
        if room is None or isinstance(room, str):
            return NoDoor
        if hand not in range(len(room[1])):
            return BadCount
        room[0] = hand

    def shut(self, path):
        door = thawed_door(self.room, path)
        if door is None:
            return NoDoor
        door[1] = 0

    def unlatch(self, path):
        door = thawed_door(self.room, path)
        if door is None:
            return NoDoor
        door[1] = door[0]

    def do(self, deed):
        """Do a deed; (what's told, the refusal or None)."""
        told = getattr(self, deed[0])(*deed[1:])
        if told in (BadCount, NoDoor):
            return None, told
        self.done.append(deed)
        return told, None


def done(keeper, deed):
    """(what's told, the refusal's class or None)."""
    try:
        return getattr(keeper, deed[0])(*deed[1:]), None
    except DoorError as refused:
        if isinstance(refused, NoDoor):
            assert refused.path == deed[1]
        return None, refused.__class__


def state(keeper):
    return keeper.house(), keeper.counts(), keeper.deeds()


def made_deed(chance, house):
    """A deed that may be refused."""
    paths = doors_of(house) or [(0,)]
    path = chance.choice(paths)
    unlikely = chance.choice(paths + [(), path + (0,), path[:-1] + (4,), path[:-1] + (-1,), path[:-1]])
    path = chance.choice((path, path, unlikely))
    word = chance.choice(CHANGES + ("walk",) * 4)
    if word == "walk":
        return (word,)
    if word == "send":
        return (word, chance.choice((0, 1, 2, 3, 7, 100, 10 ** 9, FAR, FAR + 1, -1)))
    if word == "renew":
        return (word, path, chance.choice((1, 2, 3, 4, 5, 6, 99, 0, 100)))
    if word == "turn":
        return (word, path[:-1] if chance.random() < 0.8 else path, chance.randint(-1, 4))
    return (word, path)


class Many(unittest.TestCase):
    def test_rows_of_deeds_against_a_plain_keeping(self):
        chance = random.Random(11)
        for house in HOUSES + tuple(made_houses(80, seed=12)):
            keeper, plain = Keeper(house), PlainKeeper(house)
            for _ in range(60):
                deed = made_deed(chance, house)
                self.assertEqual(done(keeper, deed), plain.do(deed), (house, plain.done, deed))
                self.assertEqual(state(keeper), (frozen(plain.room), (plain.came, plain.out), plain.done))
            for deeds in (plain.done, tuple(plain.done)):
                self.assertEqual(state(again(house, deeds)), state(keeper))
            self.assertEqual(state(again(house, keeper.deeds())), state(keeper))


class Refusing(unittest.TestCase):
    def refused(self, kind, keeper, word, *things):
        before = state(keeper)
        with self.assertRaises(kind) as caught:
            getattr(keeper, word)(*things)
        self.assertEqual(state(keeper), before)
        if kind is NoDoor:
            self.assertEqual(caught.exception.path, things[0])
            self.assertIsInstance(caught.exception.path, tuple)


class EachMethod(Refusing):
    def test_new(self):
        for house in HOUSES:
            self.assertEqual(state(Keeper(house)), (house, (0, 0), []))
            self.assertEqual(state(Keeper(house=house)), (house, (0, 0), []))

    def test_a_house_that_can_not_be(self):
        with self.assertRaises(BadHouse) as caught:
            Keeper(BAD_HOUSE)
        self.assertEqual(caught.exception.path, (0, 0))

    def test_walk(self):
        keeper = Keeper((0, ((1, 0, "a"), (1, 1, "b"))))
        self.assertEqual(keeper.walk(), ("push", (0,)))
        self.assertEqual(keeper.house(), (0, ((1, 1, "a"), (1, 1, "b"))))
        self.assertEqual(keeper.counts(), (1, 0))
        self.assertEqual(keeper.walk(), ("out", (0,), "a"))
        self.assertEqual(keeper.house(), (1, ((1, 0, "a"), (1, 1, "b"))))
        self.assertEqual(keeper.counts(), (2, 1))
        self.assertEqual(keeper.deeds(), [("walk",), ("walk",)])
        self.assertEqual(Keeper("ab").walk(), ("out", (), "ab"))

    def test_send(self):
        keeper = Keeper((0, ((2, 0, "a"),)))
        self.assertEqual(keeper.send(0), 0)
        self.assertEqual(state(keeper), ((0, ((2, 0, "a"),)), (0, 0), [("send", 0)]))
        self.assertEqual(keeper.send(4), 1)
        self.assertEqual(state(keeper), ((0, ((2, 1, "a"),)), (4, 1), [("send", 0), ("send", 4)]))
        self.assertEqual(keeper.send(many=2), 1)
        self.assertEqual(keeper.counts(), (6, 2))
        self.refused(BadCount, keeper, "send", -1)
        self.refused(BadCount, keeper, "send", FAR + 1)

    def test_counts_beyond_what_can_be_sent(self):
        keeper = Keeper((0, ((1, 0, "a"),)))
        for _ in range(3):
            self.assertEqual(keeper.send(FAR), FAR // 2)
        keeper.walk()
        self.assertEqual(keeper.counts(), (3 * FAR + 1, 3 * FAR // 2))
        keeper = Keeper("ab")
        self.assertEqual([keeper.send(FAR), keeper.send(FAR)], [FAR, FAR])
        self.assertEqual(keeper.counts(), (2 * FAR, 2 * FAR))

    def test_renew(self):
        keeper = Keeper(HOUSE)
        self.assertIsNone(keeper.renew((0,), 99))
        self.assertIsNone(keeper.renew((0, 0), 7))
        self.assertIsNone(keeper.renew((2,), 1))
        self.assertIsNone(keeper.renew(path=(0, 1), need=99))
        self.assertEqual(keeper.house(), (0, ((99, 1, (1, ((7, 0, "in"), (99, 99, "deep")))), (1, 0, "out"),
                                              (1, 1, "in"))))
        self.assertEqual(keeper.counts(), (0, 0))
        self.assertEqual(keeper.deeds(), [("renew", (0,), 99), ("renew", (0, 0), 7), ("renew", (2,), 1),
                                          ("renew", (0, 1), 99)])

    def test_renew_at_its_limits(self):
        keeper = Keeper((0, ((9, 4, "a"), (9, 9, "b"), (9, 0, "c"), (99, 98, "d"))))
        for path, need in (((0,), 4), ((0,), 3), ((0,), 0), ((0,), 100), ((1,), 0), ((1,), 100), ((2,), 0),
                           ((2,), -1), ((3,), 98), ((3,), 100)):
            self.refused(BadCount, keeper, "renew", path, need)
        for path, need in (((0,), 5), ((1,), 1), ((2,), 1), ((3,), 99)):
            keeper.renew(path, need)
        self.assertEqual(keeper.house(), (0, ((5, 4, "a"), (1, 1, "b"), (1, 0, "c"), (99, 98, "d"))))

    def test_the_path_is_refused_ahead_of_the_need(self):
        for path in ((), (3,), (-1,), (1, 0), (0, 2), (0, 0, 0)):
            for need in (5, 0, 100):
                self.refused(NoDoor, Keeper(HOUSE), "renew", path, need)

    def test_turn(self):
        keeper = Keeper(HOUSE)
        self.assertIsNone(keeper.turn((), 2))
        self.assertIsNone(keeper.turn(path=(0,), hand=0))
        self.assertEqual(keeper.house(), (2, ((2, 1, (0, ((1, 0, "in"), (3, 3, "deep")))), (1, 0, "out"),
                                              (4, 4, "in"))))
        keeper.turn((), 2)
        self.assertEqual(keeper.deeds(), [("turn", (), 2), ("turn", (0,), 0), ("turn", (), 2)])
        self.assertEqual(keeper.counts(), (0, 0))

    def test_turn_refused(self):
        for hand in (0, 1, -1, 9):
            for path in ((1,), (2,), (0, 0), (3,), (-1,), (0, 2), (0, 0, 0), (9, 9)):
                self.refused(NoDoor, Keeper(HOUSE), "turn", path, hand)
            self.refused(NoDoor, Keeper("ab"), "turn", (), hand)
        for path, hand in (((), 3), ((), -1), ((), 4), ((0,), 2), ((0,), -1)):
            self.refused(BadCount, Keeper(HOUSE), "turn", path, hand)

    def test_shut(self):
        keeper = Keeper(HOUSE)
        for path in ((0,), (0, 1), (1,), (2,)):
            self.assertIsNone(keeper.shut(path))
        shut = (0, ((2, 0, (1, ((1, 0, "in"), (3, 0, "deep")))), (1, 0, "out"), (4, 0, "in")))
        self.assertEqual(keeper.house(), shut)
        keeper.shut(path=(2,))
        self.assertEqual(keeper.house(), shut)
        self.assertEqual(keeper.deeds(), [("shut", (0,)), ("shut", (0, 1)), ("shut", (1,)), ("shut", (2,)),
                                          ("shut", (2,))])

    def test_unlatch(self):
        keeper = Keeper(HOUSE)
        for path in ((0,), (0, 0), (1,), (2,)):
            self.assertIsNone(keeper.unlatch(path))
        wide = (0, ((2, 2, (1, ((1, 1, "in"), (3, 3, "deep")))), (1, 1, "out"), (4, 4, "in")))
        self.assertEqual(keeper.house(), wide)
        keeper.unlatch(path=(2,))
        self.assertEqual(keeper.house(), wide)
        self.assertEqual(keeper.deeds(), [("unlatch", (0,)), ("unlatch", (0, 0)), ("unlatch", (1,)),
                                          ("unlatch", (2,)), ("unlatch", (2,))])

    def test_no_such_door(self):
        for word in ("shut", "unlatch"):
            for path in ((), (3,), (-1,), (1, 0), (0, 2), (0, 0, 0)):
                self.refused(NoDoor, Keeper(HOUSE), word, path)
            for path in ((), (0,)):
                self.refused(NoDoor, Keeper("ab"), word, path)


class Kept(unittest.TestCase):
    def test_lists_that_are_told_may_be_changed(self):
        keeper = Keeper(HOUSE)
        keeper.walk()
        told = keeper.deeds()
        told.append(("walk",))
        told[0] = "changed"
        self.assertEqual(keeper.deeds(), [("walk",)])

    def test_a_list_that_is_handed_in_may_be_changed(self):
        deeds = [("walk",), ("turn", (), 1)]
        keeper = again(HOUSE, deeds)
        deeds.clear()
        self.assertEqual(keeper.deeds(), [("walk",), ("turn", (), 1)])
        keeper.walk()
        self.assertEqual(deeds, [])

    def test_what_is_handed_in_is_not_changed(self):
        deeds = [("walk",), ("turn", (), 1), ("send", 7), ("turn", (), 9)]
        copy = list(deeds)
        with self.assertRaises(BadDeed):
            again(NESTED, deeds)
        self.assertEqual(deeds, copy)

    def test_two_keepers_of_one_house(self):
        one, other = Keeper(HOUSE), Keeper(HOUSE)
        one.send(5)
        one.shut((2,))
        self.assertEqual(state(other), (HOUSE, (0, 0), []))
        other.walk()
        self.assertEqual(one.counts(), (5, left(HOUSE, 5)))
        third = again(HOUSE, one.deeds())
        third.walk()
        self.assertEqual(len(one.deeds()), 2)

    def test_paths_stand_in_deeds_as_tuples(self):
        keeper = Keeper(HOUSE)
        keeper.renew((0, 0), 2)
        keeper.turn((0,), 0)
        keeper.shut((0, 1))
        keeper.unlatch((2,))
        for deed in keeper.deeds():
            self.assertIsInstance(deed, tuple)
            self.assertIsInstance(deed[1], tuple)


class Again(unittest.TestCase):
    def number(self, house, deeds):
        with self.assertRaises(BadDeed) as caught:
            again(house, deeds)
        with self.assertRaises(BadDeed) as caught_too:
            again(house, tuple(deeds))
        self.assertEqual(caught.exception.number, caught_too.exception.number)
        return caught.exception.number

    def test_none(self):
        for deeds in ([], ()):
            self.assertEqual(state(again(HOUSE, deeds)), (HOUSE, (0, 0), []))

    def test_each_word(self):
        deeds = [("walk",), ("send", 3), ("renew", (0,), 5), ("turn", (), 1), ("shut", (2,)), ("unlatch", (0, 0))]
        keeper = Keeper(HOUSE)
        for word, *things in deeds:
            getattr(keeper, word)(*things)
        self.assertEqual(state(again(HOUSE, deeds)), state(keeper))
        self.assertEqual(state(again(house=HOUSE, deeds=tuple(deeds))), state(keeper))
        self.assertEqual(keeper.deeds(), deeds)

    def test_no_deed_by_its_word_or_how_many_things(self):
        wrong = ((), ("stay",), ("",), ("Walk",), ("house",), ("counts",), ("deeds",), ("again", HOUSE, []),
                 ("walk", 1), ("walk", ()), ("send",), ("send", 1, 2), ("renew",), ("renew", (0,)),
                 ("renew", (0,), 5, 5), ("turn",), ("turn", ()), ("turn", (), 1, 1), ("shut",), ("shut", (0,), 1),
                 ("unlatch",), ("unlatch", (0,), (0,)))
        for deed in wrong:
            self.assertEqual(self.number(HOUSE, [deed]), 0, deed)
            self.assertEqual(self.number(HOUSE, [("walk",), ("shut", (0,)), deed, ("walk",)]), 2, deed)

    def test_a_deed_that_is_refused(self):
        wrong = (("send", -1), ("send", FAR + 1), ("renew", (), 5), ("renew", (0,), 0), ("renew", (2,), 100),
                 ("renew", (9,), 0), ("turn", (1,), 0), ("turn", (), 3), ("shut", ()), ("shut", (3,)),
                 ("unlatch", (1, 0)))
        for deed in wrong:
            self.assertEqual(self.number(HOUSE, [deed]), 0, deed)
            self.assertEqual(self.number(HOUSE, [("walk",), deed, ("walk",), ("stay",)]), 1, deed)

    def test_a_deed_that_is_refused_for_what_was_done_ahead_of_it(self):
        house = (0, ((2, 1, "a"),))
        self.assertEqual(again(house, [("renew", (0,), 2)]).house(), house)
        self.assertEqual(self.number(house, [("renew", (0,), 9), ("send", 5), ("renew", (0,), 2)]), 2)

    def test_the_first_of_several(self):
        wrong = [("walk",), ("send", -1), ("stay",), ()]
        self.assertEqual(self.number(HOUSE, wrong), 1)
        self.assertEqual(self.number(HOUSE, wrong[:1] + wrong[2:]), 1)
        self.assertEqual(self.number(HOUSE, wrong[:1] * 4 + wrong[3:] + wrong[1:2]), 4)

    def test_the_house_is_refused_ahead_of_any_deed(self):
        for deeds in ([], [("stay",)], [("send", -1)]):
            with self.assertRaises(BadHouse) as caught:
                again(BAD_HOUSE, deeds)
            self.assertEqual(caught.exception.path, (0, 0))


if __name__ == "__main__":
    unittest.main()
