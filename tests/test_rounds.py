"""[6]: rounds, the mean, and whether two houses tell the same for ever."""

import unittest
from fractions import Fraction

from pushdoors.errors import BadHouse
from pushdoors.far import left
from pushdoors.rounds import mean, parted, round_of
from tests.support import BAD_HOUSE, FAR, HOUSES, chain_of, cleaned, frozen, made_houses, plain_walk, thawed

SOME = HOUSES + tuple(made_houses(120, seed=6)) + tuple(made_houses(20, most_need=99, seed=7))
SMALL = HOUSES[:-1] + tuple(made_houses(25, most_doors=4, most_need=3, seed=8))


def plain_round(house):
    """(leavings, walkers) from the clean house on, walker by walker."""
    first = cleaned(house)
    room = thawed(first)
    leavings = walkers = 0
    while True:
        walkers += 1
        if plain_walk(room)[0] == "out":
            leavings += 1
            if frozen(room) == first:
                return leavings, walkers


def plain_parted(one, other):
    """Walker by walker, till both houses stand together as they stood together before."""
    first, second = thawed(one), thawed(other)
    seen = set()
    walker = 0
    while (frozen(first), frozen(second)) not in seen:
        seen.add((frozen(first), frozen(second)))
        if plain_walk(first)[2:] != plain_walk(second)[2:]:
            return walker
        walker += 1
    return None


def changed(house, doors):
    return (house[0], tuple(doors))


def variants(house):
    """Houses that differ from this one in one thing about its own room."""
    hand, doors = house
    found = [((hand + 1) % len(doors), doors), changed(house, doors[::-1])]
    for at, (need, stands, inner) in enumerate(doors):
        unlike = need + 1 if need < 99 else need - 1
        for door in ((need, (stands + 1) % (need + 1), inner), (unlike, stands, inner), (need, stands, "other")):
            found.append(changed(house, doors[:at] + (door,) + doors[at + 1:]))
    return found


def even_chain(rooms, name, need, stands):
    """A house of rooms behind one another, always behind the last door, towards whose leavings come four
    walkers each; but of the leaving that is last in a round (3 ** rooms) the innermost door may be another."""
    if rooms == 0:
        return name
    inner = even_chain(rooms - 1, name, need, stands)
    last = (1, 0, inner) if rooms > 1 else (need, stands, inner)
    return (0, ((rooms, 0, "a"), (rooms, 0, "a"), last))


class Rounds(unittest.TestCase):
    def test_by_hand(self):
        self.assertEqual(round_of((0, ((2, 0, "a"),))), (1, 3))
        self.assertEqual(round_of((1, ((2, 0, "a"), (3, 1, "b")))), (2, 7))
        # Rooms of two and of three doors come round together behind six leavings by each of two doors.
        house = (0, ((1, 0, (0, ((1, 0, "a"), (1, 0, "a")))), (1, 0, (0, ((1, 0, "a"), (1, 0, "a"), (1, 0, "a"))))))
        self.assertEqual(round_of(house), (12, 36))

    def test_against_a_walking(self):
        for house in SOME:
            self.assertEqual(round_of(house), plain_round(house), house)

    def test_a_way_out_alone(self):
        self.assertEqual(round_of("ab"), (1, 1))
        self.assertEqual(mean("ab"), (1, 1))

    def test_the_round_of_a_house_is_that_of_the_clean_one(self):
        for house in SOME:
            self.assertEqual(round_of(house), round_of(cleaned(house)), house)
            self.assertEqual(mean(house), mean(cleaned(house)), house)

    def test_doors_that_are_alike_are_two_doors(self):
        self.assertEqual(round_of((0, ((1, 0, "a"), (1, 0, "a")))), (2, 4))
        self.assertEqual(mean((0, ((1, 0, "a"), (1, 0, "a")))), (2, 1))

    def test_the_hands_told_are_those_of_the_round(self):
        # The hands don't change what a round takes, but a round from them ends with them.
        for hand in range(3):
            self.assertEqual(round_of((hand, ((1, 0, "a"), (2, 0, "a"), (3, 0, "a")))), (3, 9))

    def test_many_leavings(self):
        house = even_chain(4, "a", 1, 0)
        self.assertEqual(round_of(house), (81, 81 * 5))
        self.assertEqual(mean(house), (5, 1))

    def test_large_needs(self):
        house = (0, ((99, 99, (0, ((99, 0, "a"), (98, 0, "b")))), (97, 3, "c")))
        self.assertEqual(round_of(house), (4, 4 + 2 * 99 + 99 + 98 + 2 * 97))


class Mean(unittest.TestCase):
    def test_by_hand(self):
        self.assertEqual(mean((0, ((2, 0, "a"),))), (3, 1))
        self.assertEqual(mean((0, ((1, 1, "a"), (2, 0, "a")))), (5, 2))
        self.assertEqual(mean((0, ((1, 0, "a"), (3, 0, "a")))), (3, 1))
        self.assertEqual(mean((0, ((1, 0, "a"), (1, 0, "a"), (1, 0, "a"), (3, 0, "a")))), (5, 2))

    def test_against_a_walking(self):
        for house in SOME:
            leavings, walkers = plain_round(house)
            least = Fraction(walkers, leavings)
            self.assertEqual(mean(house), (least.numerator, least.denominator), house)

    def test_so_many_leave_in_the_long_run(self):
        for house in SOME:
            walkers, leavings = mean(house)
            self.assertLess(abs(left(house, FAR) * walkers - FAR * leavings), 10 ** 6 * walkers, house)


class Parted(unittest.TestCase):
    def test_by_hand(self):
        self.assertEqual(parted("a", "b"), 0)
        self.assertIsNone(parted("a", "a"))
        self.assertEqual(parted("a", (0, ((1, 0, "a"),))), 0)
        self.assertEqual(parted((0, ((1, 0, "a"),)), "a"), 0)
        self.assertEqual(parted("a", (0, ((1, 1, "a"),))), 1)
        self.assertEqual(parted((0, ((2, 0, "a"),)), (0, ((2, 0, "b"),))), 2)
        self.assertEqual(parted((0, ((2, 0, "a"),)), (0, ((3, 0, "a"),))), 2)
        self.assertEqual(parted((0, ((3, 1, "a"),)), (0, ((2, 0, "a"),))), 5)

    def test_houses_that_differ_in_one_thing(self):
        for house in SMALL:
            if isinstance(house, str):
                continue
            for other in variants(house):
                self.assertEqual(parted(house, other), plain_parted(house, other), (house, other))
                self.assertEqual(parted(other, house), plain_parted(house, other), (house, other))

    def test_any_two_houses(self):
        for at, house in enumerate(SMALL):
            for other in SMALL[at:] + HOUSES:
                self.assertEqual(parted(house, other), plain_parted(house, other), (house, other))

    def test_houses_of_few_kinds_of_doors(self):
        # So like each other that many tell the same for ever, or for long.
        doors = [(need, stands, inner) for need in (1, 2) for stands in (0, need)
                 for inner in ("a", (0, ((1, 0, "a"),)))]
        houses = [(0, (door,)) for door in doors] + [(0, (door, behind)) for door in doors for behind in doors]
        same = 0
        for at, house in enumerate(houses):
            for other in houses[:at + 1]:
                told = parted(house, other)
                self.assertEqual(told, plain_parted(house, other), (house, other))
                same += told is None
        self.assertGreater(same, len(houses))

    def test_a_house_and_itself(self):
        for house in SOME:
            self.assertIsNone(parted(house, house))

    def test_houses_that_tell_the_same_but_are_not_alike(self):
        once = (0, ((3, 0, "a"),))
        for other in ((0, ((3, 0, "a"), (3, 0, "a"))), (0, ((2, 0, (0, ((1, 0, "a"),))),)),
                      (0, ((1, 0, (0, ((1, 0, (0, ((1, 0, "a"),))),))),)),
                      (1, ((3, 0, "a"), (1, 0, (0, ((2, 0, "a"), (2, 0, "a"))))))):
            self.assertIsNone(parted(once, other))
            self.assertIsNone(parted(other, once))
        self.assertIsNone(parted(chain_of(12), (0, ((12, 0, "z"),))))
        self.assertIsNone(parted(even_chain(4, "a", 1, 0), (0, ((4, 0, "a"),))))

    def test_other_paths_and_pushes_of_other_doors_part_nothing(self):
        self.assertIsNone(parted((0, ((1, 0, "a"), (1, 0, "b"))), (1, ((1, 0, "b"), (1, 0, "a")))))

    def test_a_first_unlike_walker_that_comes_late(self):
        plain = (0, ((4, 0, "a"),))
        # An unlike name, need or standing of the door of the last leaving of a round of 81.
        late = ((even_chain(4, "b", 1, 0), 81 * 5 - 1), (even_chain(4, "a", 2, 0), 81 * 5 - 1),
                (even_chain(4, "a", 1, 1), 81 * 5 - 2),
                # The first time the pushes with which it stands make up for its need.
                (even_chain(4, "a", 4, 3), 162 * 5 - 1))
        for house, walker in late:
            self.assertEqual(parted(house, plain), walker)
            self.assertEqual(parted(plain, house), walker)
            self.assertEqual(parted(house, even_chain(4, "a", 1, 0)), walker)
            self.assertEqual(plain_parted(house, plain), walker)

    def test_rounds_that_seldom_come_together(self):
        fours = (0, ((4, 0, "a"), (4, 0, "a"), (4, 0, "a"), (3, 0, (0, ((1, 0, "a"),) * 4))))
        self.assertIsNone(parted(even_chain(4, "a", 1, 0), fours))
        self.assertEqual(parted(even_chain(4, "b", 1, 0), fours), 81 * 5 - 1)

    def test_each_house_is_refused(self):
        with self.assertRaises(BadHouse) as caught:
            parted("a", BAD_HOUSE)
        self.assertEqual(caught.exception.path, (0, 0))
        with self.assertRaises(BadHouse) as caught:
            parted(BAD_HOUSE, "A")
        self.assertEqual(caught.exception.path, (0, 0))
        with self.assertRaises(BadHouse) as caught:
            parted("A", BAD_HOUSE)
        self.assertEqual(caught.exception.path, ())


if __name__ == "__main__":
    unittest.main()
