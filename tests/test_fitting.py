"""[7]: needs changed in the fewest steps."""

import random
import unittest
from itertools import product

from pushdoors.errors import BadCount, BadHouse
from pushdoors.far import leaving
from pushdoors.fitting import fitted
from tests.support import BAD_HOUSE, FAR, HOUSES, TURNS, chain_of, doors_of, frozen, made_houses, made_room
from tests.support import plain_walk, thawed, thawed_door

SMALL = HOUSES[:-1] + tuple(made_houses(30, most_doors=4, most_need=4, seed=9))


def change_lists(doors, steps=4):
    """All tuples of changes of at most so many steps, the fewest steps first, then the least tuple."""
    def of(many, left):
        if many == 0:
            return [()]
        return [(change,) + rest for change in range(-left, left + 1) for rest in of(many - 1, left - abs(change))]
    return sorted(of(doors, steps), key=lambda changes: (sum(map(abs, changes)), changes))


def with_changes(house, changes):
    """The house with these changes; None, if it's none that may be told."""
    room = thawed(house)
    for path, change in zip(doors_of(house), changes):
        door = thawed_door(room, path)
        wide = door[0] == door[1]
        door[0] += change
        if wide:
            door[1] = door[0]
        if not 1 <= door[0] <= 99 or not wide and door[0] <= door[1]:
            return None
    return frozen(room)


def plain_leaving(house, number):
    """The walker of a leaving, walker by walker."""
    room = thawed(house)
    walker = -1
    while number:
        walker += 1
        number -= plain_walk(room)[0] == "out"
    return walker


def changed_houses(house):
    found = [with_changes(house, changes) for changes in change_lists(len(doors_of(house)))]
    return [other for other in found if other is not None]


def by_walker(house, number, walker_of):
    """For each walker that a changed house makes the told leaving's: the first such house."""
    found = {}
    for other in changed_houses(house):
        found.setdefault(walker_of(other, number), other)
    return found


class Lists(unittest.TestCase):
    def test_the_lists_of_the_test(self):
        self.assertEqual(change_lists(1), [(0,), (-1,), (1,), (-2,), (2,), (-3,), (3,), (-4,), (4,)])
        every = [changes for changes in product(range(-4, 5), repeat=3) if sum(map(abs, changes)) <= 4]
        self.assertEqual(sorted(change_lists(3)), every)


class AllTried(unittest.TestCase):
    def test_small_houses(self):
        for house in SMALL:
            for number in (1, 2, 3, 5, 8):
                found = by_walker(house, number, plain_leaving)
                for walker in range(max(found) + 10):
                    self.assertEqual(fitted(house, number, walker), found.get(walker), (house, number, walker))

    def test_large_and_least_needs(self):
        for house in ((0, ((99, 0, "a"), (1, 0, "b"))), (0, ((99, 99, "a"), (98, 97, "b"))),
                      (1, ((97, 95, (0, ((2, 2, "a"),))), (1, 1, "b")))):
            for number in (1, 2, 3, 4):
                found = by_walker(house, number, plain_leaving)
                for walker in range(max(found) + 10):
                    self.assertEqual(fitted(house, number, walker), found.get(walker), (house, number, walker))

    def test_twelve_doors(self):
        chance = random.Random(10)
        houses = [HOUSES[-1], made_room(chance, 12, 6), made_room(chance, 12, 99), chain_of(12)]
        for house, number in zip(houses, (10 ** 9, TURNS - 1, 7, TURNS)):
            found = by_walker(house, number, lambda other, which: leaving(other, which)[0])
            for walker in chance.sample(sorted(found), min(40, len(found))):
                self.assertEqual(fitted(house, number, walker), found[walker], (house, number, walker))
                other = walker + chance.choice((-1, 1))
                self.assertEqual(fitted(house, number, other), found.get(other), (house, number, other))


class ByHand(unittest.TestCase):
    def test_nothing_is_to_be_done(self):
        for house in HOUSES:
            for number in (1, 7, 10 ** 9, TURNS):
                self.assertEqual(fitted(house, number, leaving(house, number)[0]), house)

    def test_one_door(self):
        house = (0, ((5, 2, "a"),))
        self.assertEqual(fitted(house, 1, 3), house)
        self.assertEqual(fitted(house, 1, 1), (0, ((3, 2, "a"),)))
        self.assertIsNone(fitted(house, 1, 0))
        self.assertEqual(fitted(house, 1, 7), (0, ((9, 2, "a"),)))
        self.assertIsNone(fitted(house, 1, 8))
        self.assertEqual(fitted(house, 2, 5), (0, ((3, 2, "a"),)))
        self.assertIsNone(fitted(house, 2, 6))

    def test_needs_at_their_limits(self):
        self.assertEqual(fitted((0, ((97, 0, "a"),)), 1, 99), (0, ((99, 0, "a"),)))
        self.assertIsNone(fitted((0, ((97, 0, "a"),)), 1, 100))
        self.assertEqual(fitted((0, ((3, 0, "a"),)), 1, 1), (0, ((1, 0, "a"),)))
        self.assertIsNone(fitted((0, ((3, 0, "a"),)), 1, 0))
        self.assertEqual(fitted((0, ((98, 0, "a"), (98, 0, "b"))), 2, 199), (0, ((99, 0, "a"), (99, 0, "b"))))
        self.assertIsNone(fitted((0, ((98, 0, "a"), (98, 0, "b"))), 2, 200))

    def test_a_shut_door_whose_need_is_just_above_its_pushes(self):
        house = (0, ((4, 3, "a"), (4, 0, "b")))
        self.assertIsNone(fitted(house, 1, 0))
        self.assertEqual(fitted(house, 2, 5), (0, ((4, 3, "a"), (3, 0, "b"))))
        self.assertEqual(fitted(house, 2, 7), (0, ((4, 3, "a"), (5, 0, "b"))))

    def test_an_open_door_stays_open_with_the_new_need(self):
        self.assertEqual(fitted((0, ((4, 4, "a"),)), 2, 4), (0, ((3, 3, "a"),)))
        self.assertEqual(fitted((0, ((4, 4, "a"),)), 2, 2), (0, ((1, 1, "a"),)))
        self.assertEqual(fitted((0, ((4, 4, "a"),)), 2, 9), (0, ((8, 8, "a"),)))
        self.assertIsNone(fitted((0, ((4, 4, "a"),)), 2, 1))
        # At its first leaving another need brings neither more nor fewer.
        self.assertIsNone(fitted((0, ((4, 4, "a"),)), 1, 1))

    def test_the_fewest_steps_come_ahead_of_the_least_tuple(self):
        # By three leavings door 0 is pushed open twice, door 1 once.
        house = (0, ((5, 0, "a"), (5, 0, "b")))
        self.assertEqual(leaving(house, 3)[0], 17)
        self.assertEqual(fitted(house, 3, 19), (0, ((6, 0, "a"), (5, 0, "b"))))
        self.assertEqual(fitted(house, 3, 18), (0, ((5, 0, "a"), (6, 0, "b"))))
        self.assertEqual(fitted(house, 3, 16), (0, ((5, 0, "a"), (4, 0, "b"))))

    def test_the_least_tuple_as_paths_ascend(self):
        house = (0, ((5, 0, (0, ((5, 0, "a"),))), (5, 0, "b")))
        # One fewer: by the first path; one more: by the last.
        self.assertEqual(fitted(house, 2, 15), (0, ((4, 0, (0, ((5, 0, "a"),))), (5, 0, "b"))))
        self.assertEqual(fitted(house, 2, 17), (0, ((5, 0, (0, ((5, 0, "a"),))), (6, 0, "b"))))
        self.assertEqual(fitted(house, 1, 11), (0, ((5, 0, (0, ((6, 0, "a"),))), (5, 0, "b"))))

    def test_four_steps_are_enough_and_five_are_not(self):
        house = (0, ((9, 0, "a"), (9, 0, "b")))
        self.assertEqual(fitted(house, 2, 23), (0, ((9, 0, "a"), (13, 0, "b"))))
        self.assertIsNone(fitted(house, 2, 24))
        self.assertEqual(fitted(house, 2, 15), (0, ((5, 0, "a"), (9, 0, "b"))))
        self.assertIsNone(fitted(house, 2, 14))

    def test_a_way_out_alone(self):
        self.assertEqual(fitted("ab", 1, 0), "ab")
        self.assertEqual(fitted("ab", TURNS, TURNS - 1), "ab")
        self.assertIsNone(fitted("ab", 1, 1))
        self.assertIsNone(fitted("ab", TURNS, FAR))

    def test_far_leavings(self):
        house = (0, ((99, 0, "a"),) * 4)
        quarter = TURNS // 4
        walker = leaving(house, TURNS)[0]
        self.assertEqual(walker, 100 * TURNS - 1)
        changed = (0, ((97, 0, "a"), (98, 0, "a"), (98, 0, "a"), (99, 0, "a")))
        self.assertEqual(leaving(changed, TURNS)[0], walker - 4 * quarter)
        self.assertEqual(fitted(house, TURNS, walker - 4 * quarter), (0, ((95, 0, "a"),) + house[1][1:]))
        self.assertIsNone(fitted(house, TURNS, walker - 4 * quarter - 1))
        self.assertIsNone(fitted(house, TURNS, walker + quarter))
        self.assertIsNone(fitted(house, TURNS, FAR))


class Refused(unittest.TestCase):
    def test_leavings(self):
        for house in HOUSES:
            for number in (-1, 0, TURNS + 1):
                with self.assertRaises(BadCount):
                    fitted(house, number, 5)
            fitted(house, 1, 5)
            fitted(house, TURNS, 5)

    def test_walkers(self):
        for house in HOUSES:
            for walker in (-1, FAR + 1):
                with self.assertRaises(BadCount):
                    fitted(house, 1, walker)
            fitted(house, 1, 0)
            fitted(house, 1, FAR)

    def test_the_leaving_is_handed_in_ahead_of_the_walker(self):
        for number, walker in ((0, FAR + 1), (TURNS + 1, -1), (0, 5), (5, -1)):
            with self.assertRaises(BadCount):
                fitted("a", number, walker)
            with self.assertRaises(BadHouse):
                fitted(BAD_HOUSE, number, walker)


if __name__ == "__main__":
    unittest.main()
