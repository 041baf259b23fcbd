"""[4] and [5]: any far walker, leaving and push."""

import unittest

from pushdoors.errors import BadCount, NoDoor, NoName
from pushdoors.far import after, fate, leaving, left, named, pushed
from pushdoors.walking import fates
from tests.support import FAR, HOUSES, TURNS, chain_of, doors_of, frozen, made_houses, names_of
from tests.support import plain_after, plain_fates, plain_walk, thawed

SOME = HOUSES + tuple(made_houses(60, seed=3)) + tuple(made_houses(10, most_need=99, seed=4))


def cycle_of(house):
    """(fates till the house stands as it stood before, how many of them come just once), by plain walks."""
    room = thawed(house)
    told = []
    seen = {}
    while frozen(room) not in seen:
        seen[frozen(room)] = len(told)
        told.append(plain_walk(room))
    return told, seen[frozen(room)]


class Cycle:
    """What becomes of all walkers of a house whose cycle is short."""

    def __init__(self, house):
        self.house = house
        self.told, self.once = cycle_of(house)
        self.length = len(self.told) - self.once

    def place(self, walker):
        if walker < self.once:
            return walker
        return self.once + (walker - self.once) % self.length

    def fate(self, walker):
        return self.told[self.place(walker)]

    def after(self, many):
        return plain_after(self.house, self.place(many))

    def before(self, many, wanted):
        """How many of the first so many walkers are wanted."""
        if many <= self.once:
            return sum(map(wanted, self.told[:many]))
        whole, rest = divmod(many - self.once, self.length)
        turning = self.told[self.once:]
        return sum(map(wanted, self.told[:self.once] + turning[:rest])) + whole * sum(map(wanted, turning))

    def which(self, number, wanted):
        """The walker who is the told one of those wanted, from 1."""
        first = [walker for walker in range(self.once) if wanted(self.told[walker])]
        if number <= len(first):
            return first[number - 1]
        turning = [walker for walker in range(self.once, len(self.told)) if wanted(self.told[walker])]
        whole, rest = divmod(number - len(first) - 1, len(turning))
        return turning[rest] + whole * self.length


def is_out(told):
    return told[0] == "out"


CYCLES = [Cycle(house) for house in HOUSES + tuple(made_houses(40, most_doors=6, most_need=4, seed=5))]


class Near(unittest.TestCase):
    """All that fates tells, told again by the others."""

    def test_fate(self):
        for house in SOME:
            self.assertEqual([fate(house, walker) for walker in range(300)], fates(house, 300), house)

    def test_after(self):
        for house in SOME:
            for many in (0, 1, 2, 3, 5, 8, 13, 40, 150, 299, 300):
                self.assertEqual(after(house, many), plain_after(house, many), (house, many))

    def test_a_walking_from_the_house_behind_so_many(self):
        for house in SOME:
            whole = fates(house, 300)
            for many in (0, 1, 2, 7, 50, 299, 300):
                self.assertEqual(fates(after(house, many), 300 - many), whole[many:], (house, many))

    def test_left(self):
        for house in SOME:
            out = 0
            for walker, told in enumerate(fates(house, 300)):
                self.assertEqual(left(house, walker), out, (house, walker))
                out += is_out(told)
            self.assertEqual(left(house, 300), out, house)

    def test_leaving(self):
        for house in SOME:
            told = [(walker, *one[1:]) for walker, one in enumerate(fates(house, 300)) if is_out(one)]
            found = [leaving(house, number) for number in range(1, len(told) + 1)]
            self.assertEqual(found, told, house)

    def test_named(self):
        for house in SOME:
            for name in names_of(house):
                told = [(walker, one[1]) for walker, one in enumerate(fates(house, 300)) if one[2:] == (name,)]
                found = [named(house, name, number) for number in range(1, len(told) + 1)]
                self.assertEqual(found, told, (house, name))

    def test_pushed(self):
        for house in SOME:
            for path in doors_of(house):
                told = [walker for walker, one in enumerate(fates(house, 300)) if one == ("push", path)]
                found = [pushed(house, path, number) for number in range(1, len(told) + 1)]
                self.assertEqual(found, told, (house, path))


class Far(unittest.TestCase):
    """Against plain walks through one cycle, which goes round and round."""

    walkers = (0, 1, 10 ** 3, 10 ** 6 + 1, 10 ** 9 - 7, 10 ** 15 + 11, FAR - 1, FAR)
    turns = (1, 2, 3, 10 ** 3, 10 ** 6 + 1, 10 ** 12 - 5, TURNS - 1, TURNS)

    def test_fate(self):
        for cycle in CYCLES:
            for walker in self.walkers:
                self.assertEqual(fate(cycle.house, walker), cycle.fate(walker), (cycle.house, walker))

    def test_after(self):
        for cycle in CYCLES:
            for many in self.walkers:
                self.assertEqual(after(cycle.house, many), cycle.after(many), (cycle.house, many))

    def test_left(self):
        for cycle in CYCLES:
            for many in self.walkers:
                self.assertEqual(left(cycle.house, many), cycle.before(many, is_out), (cycle.house, many))

    def test_leaving(self):
        for cycle in CYCLES:
            for number in self.turns:
                walker = cycle.which(number, is_out)
                told = (walker, *cycle.fate(walker)[1:])
                self.assertEqual(leaving(cycle.house, number), told, (cycle.house, number))

    def test_named(self):
        for cycle in CYCLES:
            for name in names_of(cycle.house):
                for number in self.turns:
                    walker = cycle.which(number, lambda one: one[2:] == (name,))
                    told = (walker, cycle.fate(walker)[1])
                    self.assertEqual(named(cycle.house, name, number), told, (cycle.house, name, number))

    def test_pushed(self):
        for cycle in CYCLES:
            for path in doors_of(cycle.house):
                for number in self.turns:
                    walker = cycle.which(number, lambda one: one == ("push", path))
                    self.assertEqual(pushed(cycle.house, path, number), walker, (cycle.house, path, number))


class ByHand(unittest.TestCase):
    def test_a_way_out_alone(self):
        self.assertEqual(fate("ab", FAR), ("out", (), "ab"))
        self.assertEqual(after("ab", FAR), "ab")
        self.assertEqual(left("ab", FAR), FAR)
        self.assertEqual(leaving("ab", TURNS), (TURNS - 1, (), "ab"))
        self.assertEqual(named("ab", "ab", TURNS), (TURNS - 1, ()))

    def test_one_door(self):
        house = (0, ((99, 0, "abcdef"),))
        self.assertEqual(leaving(house, 1), (99, (0,), "abcdef"))
        self.assertEqual(leaving(house, TURNS), (100 * TURNS - 1, (0,), "abcdef"))
        self.assertEqual(named(house, "abcdef", TURNS), (100 * TURNS - 1, (0,)))
        self.assertEqual(left(house, FAR), FAR // 100)
        self.assertEqual(after(house, FAR), house)
        self.assertEqual(after(house, FAR - 1), (0, ((99, 99, "abcdef"),)))
        self.assertEqual(fate(house, FAR), ("push", (0,)))
        self.assertEqual(fate(house, FAR - 1), ("out", (0,), "abcdef"))
        self.assertEqual(pushed(house, (0,), 1), 0)
        self.assertEqual(pushed(house, (0,), 99), 98)
        self.assertEqual(pushed(house, (0,), 100), 100)

    def test_pushes_that_were_made_before_are_not_counted(self):
        self.assertEqual(pushed((0, ((3, 2, "a"),)), (0,), 1), 0)
        self.assertEqual(pushed((0, ((3, 2, "a"),)), (0,), 2), 2)
        self.assertEqual(pushed((0, ((3, 3, "a"),)), (0,), 1), 1)

    def test_a_name_of_several_ways_out(self):
        house = (0, ((1, 1, "a"), (1, 1, (0, ((1, 1, "b"), (1, 1, "a")))), (1, 1, "b")))
        self.assertEqual([named(house, "a", number) for number in (1, 2, 3)], [(0, (0,)), (4, (0,)), (6, (1, 1))])
        self.assertEqual([named(house, "b", number) for number in (1, 2, 3)], [(1, (1, 0)), (2, (2,)), (8, (2,))])

    def test_twelve_doors_behind_one_another(self):
        house = chain_of(12)
        self.assertEqual(leaving(house, TURNS), (13 * TURNS - 1, (0,) * 12, "z"))
        self.assertEqual(pushed(house, (0,) * 12, TURNS), 13 * TURNS - 2)
        self.assertEqual(left(house, FAR), FAR // 13)

    def test_the_last_walker_leaves_a_house_unlike_the_one_before(self):
        for house in HOUSES[1:]:
            for many in (FAR - 1, 10 ** 9):
                self.assertEqual(plain_fates(after(house, many), 1), [fate(house, many)])
                self.assertEqual(plain_after(after(house, many), 1), after(house, many + 1))


class Refused(unittest.TestCase):
    def test_walkers_and_counts(self):
        for call in (fate, after, left):
            for house in HOUSES:
                for number in (-1, FAR + 1):
                    with self.assertRaises(BadCount):
                        call(house, number)
                call(house, 0)
                call(house, FAR)

    def test_leavings(self):
        for house in HOUSES:
            for number in (-1, 0, TURNS + 1):
                with self.assertRaises(BadCount):
                    leaving(house, number)
            leaving(house, 1)
            leaving(house, TURNS)

    def test_leavings_by_a_name(self):
        for house in HOUSES:
            for name in names_of(house):
                for number in (-1, 0, TURNS + 1):
                    with self.assertRaises(BadCount):
                        named(house, name, number)
                named(house, name, 1)
                named(house, name, TURNS)

    def test_pushes(self):
        for house in HOUSES:
            for path in doors_of(house):
                for number in (-1, 0, TURNS + 1):
                    with self.assertRaises(BadCount):
                        pushed(house, path, number)
                pushed(house, path, 1)
                pushed(house, path, TURNS)

    def test_no_such_name(self):
        for house in HOUSES:
            for name in ("none", "", "A", "abcdefg", "abcde"):
                # A name is refused ahead of the number, which is handed in behind it.
                for number in (1, 0, TURNS + 1):
                    with self.assertRaises(NoName) as caught:
                        named(house, name, number)
                    self.assertEqual(caught.exception.name, name)

    def test_no_such_door(self):
        nested = (0, ((1, 0, (0, ((1, 0, "a"), (1, 0, "b")))), (1, 0, "c")))
        wrong = [("ab", path) for path in ((), (0,), (-1,), (0, 0))]
        wrong += [(nested, path) for path in ((), (-1,), (2,), (0, 2), (0, -1), (-1, 0), (1, 0), (0, 0, 0), (9, 9))]
        for house, path in wrong:
            # A path is refused ahead of the number, which is handed in behind it.
            for number in (1, 0, TURNS + 1):
                with self.assertRaises(NoDoor) as caught:
                    pushed(house, path, number)
                self.assertEqual(caught.exception.path, path)


if __name__ == "__main__":
    unittest.main()
