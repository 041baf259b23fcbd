"""[2]: which houses can be, and the first room that can't."""

import unittest

from pushdoors.errors import BadHouse
from pushdoors.walking import fates
from tests.support import CALLS, HOUSES, WRONG_CALLS, chain_of

BAD = "A"
FINE = (1, 0, "a")


def room(*doors):
    return (0, doors)


# What is wrong, and the path of the first room that can't be.
WRONG = (
    ("", ()),
    ("abcdefg", ()),
    ("A", ()),
    ("aB", ()),
    ("a1", ()),
    ("a b", ()),
    ("a\n", ()),
    ("\u00e4", ()),
    ((0, ()), ()),
    (room(FINE, FINE, FINE, FINE, FINE), ()),
    ((-1, (FINE, FINE)), ()),
    ((2, (FINE, FINE)), ()),
    ((1, (FINE,)), ()),
    ((4, (FINE, FINE, FINE, FINE)), ()),
    (room((0, 0, "a")), ()),
    (room((-1, 0, "a")), ()),
    (room((100, 0, "a")), ()),
    (room((3, -1, "a")), ()),
    (room((3, 4, "a")), ()),
    (room((99, 100, "a")), ()),
    (room(FINE, FINE, FINE, (100, 0, "a")), ()),
    (room(FINE, FINE, FINE, (1, 2, "a")), ()),
    (room((1, 0, BAD)), (0,)),
    (room(FINE, (1, 0, "")), (1,)),
    (room(FINE, FINE, FINE, (1, 0, (0, ()))), (3,)),
    (room(FINE, (1, 0, (1, (FINE,)))), (1,)),
    (room(FINE, (1, 0, room(FINE, (1, 0, room(FINE, FINE, (7, 8, "a")))))), (1, 1)),
    (room(FINE, (1, 0, room(FINE, (1, 0, room(FINE, FINE, (7, 7, "abcdefg")))))), (1, 1, 2)),
)

THIRTEEN = room(*[(1, 0, room(FINE, FINE, FINE))] * 3, FINE)

# Several things are wrong; the path is that of the first.
IN_TURN = (
    # a room ahead of those behind its doors
    ((2, ((1, 0, BAD), FINE)), ()),
    (room((1, 0, BAD), (1, 2, "a")), ()),
    (room((1, 0, BAD), (0, 0, "a")), ()),
    (room((1, 0, BAD), FINE, FINE, FINE, FINE), ()),
    (room((1, 0, (5, ((1, 0, BAD),)))), (0,)),
    # these in turn
    (room((1, 0, BAD), (1, 0, BAD)), (0,)),
    (room(FINE, (1, 0, BAD), (1, 0, BAD)), (1,)),
    (room((1, 0, (9, (FINE,))), (1, 0, BAD)), (0,)),
    # with all that is behind a door, ahead of the next door
    (room((1, 0, room((1, 0, BAD))), (1, 0, BAD)), (0, 0)),
    (room((1, 0, room(FINE, (1, 0, room((1, 0, BAD))))), (1, 0, (1, (FINE,)))), (0, 1, 0)),
    (room(FINE, (1, 0, room(FINE, (1, 0, BAD))), (1, 0, BAD)), (1, 1)),
    # a thirteenth door behind all that
    (THIRTEEN, ()),
    (room(*[(1, 0, room(FINE, FINE, FINE))] * 3, (1, 0, BAD)), (3,)),
    (room(*[(1, 0, room(FINE, FINE, FINE, FINE))] * 3, (1, 0, room((1, 2, "a")))), (3,)),
    (room(*[(1, 0, room(*[(1, 0, room(FINE))] * 4))] * 3, (1, 0, room(FINE, (1, 0, "")))), (3, 1)),
    (chain_of(13), ()),
    (chain_of(13, BAD), (0,) * 13),
    (chain_of(40), ()),
)


class Houses(unittest.TestCase):
    def refused(self, call, house):
        with self.assertRaises(BadHouse) as caught:
            call(house)
        return caught.exception.path

    def test_each_reason_by_each_function(self):
        for word, call in CALLS.items():
            for house, path in WRONG:
                self.assertEqual(self.refused(call, house), path, (word, house))

    def test_the_first_room_by_each_function(self):
        for word, call in CALLS.items():
            for house, path in IN_TURN:
                self.assertEqual(self.refused(call, house), path, (word, house))

    def test_the_house_is_refused_ahead_of_all_else(self):
        for word, call in WRONG_CALLS.items():
            for house, path in WRONG + IN_TURN:
                self.assertEqual(self.refused(call, house), path, (word, house))

    def test_the_path_is_a_tuple(self):
        self.assertIsInstance(self.refused(CALLS["fates"], room((1, 0, BAD))), tuple)

    def test_what_lies_at_the_limits_can_be(self):
        for house in HOUSES:
            fates(house, 0)
        for name in ("a", "z", "abcdef", "uvwxyz", "mmmmmm"):
            fates(name, 0)
        for hand in range(4):
            fates((hand, (FINE,) * 4), 0)
        for need, stands in ((1, 0), (1, 1), (99, 0), (99, 98), (99, 99)):
            fates(room((need, stands, "a")), 0)
        fates(chain_of(12), 0)
        fates(room(*[(1, 0, room(FINE, FINE, FINE))] * 3), 0)


if __name__ == "__main__":
    unittest.main()
