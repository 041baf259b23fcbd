"""[3], and fates of [4]."""

import unittest

from pushdoors.errors import BadCount
from pushdoors.walking import fates
from tests.support import HOUSES, chain_of, made_houses, plain_fates


class Ways(unittest.TestCase):
    def test_a_way_out_alone(self):
        self.assertEqual(fates("ab", 3), [("out", (), "ab")] * 3)

    def test_a_push_that_opens_sends_the_walker_back(self):
        house = (0, ((2, 0, "a"),))
        cycle = [("push", (0,)), ("push", (0,)), ("out", (0,), "a")]
        self.assertEqual(fates(house, 7), cycle * 2 + cycle[:1])

    def test_a_need_of_one(self):
        self.assertEqual(fates((0, ((1, 0, "a"),)), 4), [("push", (0,)), ("out", (0,), "a")] * 2)

    def test_a_need_of_99(self):
        cycle = [("push", (0,))] * 99 + [("out", (0,), "abcdef")]
        self.assertEqual(fates((0, ((99, 0, "abcdef"),)), 300), cycle * 3)

    def test_doors_that_stand_pushed_or_wide(self):
        self.assertEqual(fates((0, ((3, 2, "a"),)), 3), [("push", (0,)), ("out", (0,), "a"), ("push", (0,))])
        self.assertEqual(fates((0, ((3, 3, "a"),)), 2), [("out", (0,), "a"), ("push", (0,))])
        self.assertEqual(fates((0, ((99, 99, "a"),)), 2), [("out", (0,), "a"), ("push", (0,))])
        self.assertEqual(fates((0, ((99, 98, "a"),)), 2), [("push", (0,)), ("out", (0,), "a")])

    def test_the_hand_goes_on_and_from_the_last_to_the_first(self):
        house = (2, ((1, 1, "a"), (1, 1, "b"), (1, 1, "c"), (1, 1, "d")))
        told = [("out", (2,), "c"), ("out", (3,), "d"), ("out", (0,), "a"), ("out", (1,), "b"), ("push", (2,))]
        self.assertEqual(fates(house, 5), told)

    def test_a_push_moves_no_hand_and_shuts_nothing(self):
        # The outer door stays wide while the inner one is pushed, and both fall shut behind who leaves.
        house = (0, ((1, 0, (0, ((2, 0, "a"), (1, 0, "b")))), (1, 0, "c")))
        self.assertEqual(fates(house, 12), [
            ("push", (0,)), ("push", (0, 0)), ("push", (0, 0)), ("out", (0, 0), "a"),
            ("push", (1,)), ("out", (1,), "c"),
            ("push", (0,)), ("push", (0, 1)), ("out", (0, 1), "b"),
            ("push", (1,)), ("out", (1,), "c"), ("push", (0,))])

    def test_only_doors_gone_through_fall_shut(self):
        # Door 1 stands pushed all the while that its room's hand points at door 0.
        house = (0, ((1, 1, "a"), (3, 2, (0, ((1, 1, "b"),)))))
        self.assertEqual(fates(house, 5), [
            ("out", (0,), "a"), ("push", (1,)), ("out", (1, 0), "b"), ("push", (0,)), ("out", (0,), "a")])

    def test_twelve_doors_behind_one_another(self):
        path = (0,) * 12
        told = [("push", path[:deep]) for deep in range(1, 13)] + [("out", path, "z")]
        self.assertEqual(fates(chain_of(12), 26), told * 2)

    def test_against_a_plain_walk(self):
        for house in HOUSES + tuple(made_houses(150)) + tuple(made_houses(30, most_need=99, seed=2)):
            self.assertEqual(fates(house, 300), plain_fates(house, 300), house)


class Many(unittest.TestCase):
    def test_none_and_most(self):
        for house in HOUSES:
            self.assertEqual(fates(house, 0), [])
            self.assertEqual(len(fates(house, 300)), 300)
            self.assertEqual(fates(house, 300)[:1], fates(house, 1))

    def test_beyond_the_limits(self):
        for many in (-1, -300, 301, 10 ** 18):
            for house in HOUSES:
                with self.assertRaises(BadCount):
                    fates(house, many)


if __name__ == "__main__":
    unittest.main()
