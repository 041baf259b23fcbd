"""[10]: houses as texts."""

import unittest

from pushdoors.errors import BadHouse, BadText
from pushdoors.notes import read, written
from tests.support import HOUSES, NESTED, chain_of, made_houses
from tests.test_houses import IN_TURN, WRONG

SOME = HOUSES + (chain_of(12),) + tuple(made_houses(150, seed=13)) + tuple(made_houses(50, most_need=99, seed=14))

# A house of every sort of row, row by row; what is wrong with a row is put in its place.
ROWS = ["room 1 2", "door 3 0", "out ab", "door 12 12", "room 0 1", "door 1 0", "out abcdef"]


def plain_rows(room):
    """The rows of any room, also of one that can't be."""
    if isinstance(room, str):
        return ["out " + room]
    rows = ["room " + str(room[0]) + " " + str(len(room[1]))]
    for need, stands, inner in room[1]:
        rows += ["door " + str(need) + " " + str(stands)] + plain_rows(inner)
    return rows


def readable(rows):
    """Whether rows of a house that can't be are such as can stand there."""
    words = " ".join(rows).split(" ")
    names = [row[4:] for row in rows if row.startswith("out ")]
    return not any(word.startswith("-") or len(word) > 2 and word.isdigit() for word in words) and all(
        name.isascii() and name.islower() and name.isalpha() and len(name) <= 6 for name in names)


class Written(unittest.TestCase):
    def test_by_hand(self):
        self.assertEqual(written("ab"), "out ab")
        self.assertEqual(written((0, ((3, 0, "a"), (99, 99, "b")))),
                         "room 0 2\ndoor 3 0\nout a\ndoor 99 99\nout b")
        self.assertEqual(written(NESTED), "\n".join([
            "room 0 3", "door 2 1", "room 1 2", "door 1 0", "out in", "door 3 3", "out deep",
            "door 1 0", "out out", "door 4 2", "out in"]))

    def test_each_row(self):
        for house in SOME:
            self.assertEqual(written(house), "\n".join(plain_rows(house)))

    def test_what_is_written_is_read_to_the_same(self):
        for house in SOME:
            self.assertEqual(read(written(house)), house)
            self.assertEqual(written(read(written(house))), written(house))
            self.assertEqual(read(text=written(house=house)), house)

    def test_what_is_read_is_made_of_tuples_and_numbers(self):
        for house in SOME:
            self.assertEqual(repr(read(written(house))), repr(house))


class Refused(unittest.TestCase):
    def row(self, text):
        with self.assertRaises(BadText) as caught:
            read(text)
        return caught.exception.row

    def path(self, text):
        with self.assertRaises(BadHouse) as caught:
            read(text)
        return caught.exception.path

    def put(self, at, *rows):
        return "\n".join(ROWS[:at] + list(rows) + ROWS[at + 1:])

    def test_the_rows_can_be_read(self):
        self.assertEqual(read("\n".join(ROWS)), (1, ((3, 0, "ab"), (12, 12, (0, ((1, 0, "abcdef"),))))))

    def test_each_row_by_its_words(self):
        for at, row in enumerate(ROWS):
            words = row.split(" ")
            wrong = [" ".join(words[:-1]), row + " 1", row + " a", row + " ", " " + row, row.replace(" ", "  ", 1),
                     words[0], words[0] + " ", words[0] + "  ", "", " ", "stay 1 2", words[0].upper() + row[4:],
                     row + "\r", row + "\t", row.replace(" ", "\t"), "x" + row]
            for one in wrong:
                self.assertEqual(self.row(self.put(at, one)), at, one)

    def test_numbers(self):
        wrong = ("100", "000", "00", "01", "09", "-1", "+1", "1.", "a", "1a", "", "\u0663", "\u00b2", "0x", "1_", "1\r")
        for at, row in enumerate(ROWS):
            words = row.split(" ")
            for place in range(1, len(words)):
                if words[0] == "out":
                    continue
                for number in wrong:
                    one = " ".join(words[:place] + [number] + words[place + 1:])
                    self.assertEqual(self.row(self.put(at, one)), at, one)

    def test_names(self):
        for at in (2, 6):
            for name in ("", "abcdefg", "A", "aB", "a1", "1", "12", "\u00e4", "a-b", "a_", "a\r"):
                self.assertEqual(self.row(self.put(at, "out " + name)), at, name)

    def test_rows_of_another_kind(self):
        for at, row in enumerate(ROWS):
            for one in ("room 0 1", "door 1 0", "out a"):
                wants_door = row.startswith("door")
                if one.startswith("door") != wants_door:
                    self.assertEqual(self.row(self.put(at, one)), at, (at, one))

    def test_a_row_that_is_more(self):
        for one in ("", "out a", "door 1 0", "room 0 1", "more"):
            self.assertEqual(self.row("\n".join(ROWS + [one])), len(ROWS))
            self.assertEqual(self.row("\n".join(ROWS + [one, one])), len(ROWS))
            self.assertEqual(self.row("out a\n" + one), 1)
        self.assertEqual(self.row("room 0 0\nout a"), 1)

    def test_a_row_that_lacks(self):
        for many in range(1, len(ROWS)):
            self.assertEqual(self.row("\n".join(ROWS[:many])), many)
            # A line end there makes an empty row, which is the one that can't stand there.
            self.assertEqual(self.row("\n".join(ROWS[:many]) + "\n"), many)
        self.assertEqual(self.row("room 0 99"), 1)

    def test_an_empty_text(self):
        self.assertEqual(self.row(""), 0)
        self.assertEqual(self.row("\n"), 0)
        self.assertEqual(self.row(" "), 0)

    def test_the_first_of_several(self):
        self.assertEqual(self.row("room 0 2\ndoor 1 00\nout A"), 1)
        self.assertEqual(self.row("room 0 2\ndoor 1 0\nout A\ndoor 1"), 2)
        self.assertEqual(self.row("room 0 2\ndoor 1 0\nout a\n\nout"), 3)

    def test_a_text_is_refused_ahead_of_its_house(self):
        self.assertEqual(self.row("room 9 1\ndoor 0 5\nout A"), 2)
        self.assertEqual(self.row("room 0 0\n"), 1)
        self.assertEqual(self.row("room 0 1\ndoor 0 0"), 2)
        self.assertEqual(self.row("room 0 1\ndoor 0 0\nout a\nout a"), 3)

    def test_houses_that_can_be_read_and_can_not_be(self):
        self.assertEqual(self.path("room 0 0"), ())
        self.assertEqual(self.path("room 2 2\ndoor 1 0\nout a\ndoor 1 0\nout a"), ())
        self.assertEqual(self.path("room 99 1\ndoor 1 0\nout a"), ())
        self.assertEqual(self.path("room 0 1\ndoor 0 0\nout a"), ())
        self.assertEqual(self.path("room 0 1\ndoor 3 4\nout a"), ())
        self.assertEqual(self.path("room 0 1\ndoor 99 99\nroom 0 0"), (0,))
        self.assertEqual(self.path("\n".join(["room 0 5"] + ["door 1 0", "out a"] * 5)), ())
        self.assertEqual(self.path("\n".join(["room 0 99"] + ["door 1 0", "out a"] * 99)), ())
        self.assertEqual(self.path("\n".join(["room 0 1", "door 1 0"] * 13 + ["out a"])), ())
        self.assertEqual(self.path("\n".join(["room 0 1", "door 1 0"] * 2000 + ["out a"])), ())

    def test_houses_that_can_not_be_written_row_by_row(self):
        seen = 0
        for house, path in WRONG + IN_TURN:
            rows = plain_rows(house)
            if readable(rows):
                self.assertEqual(self.path("\n".join(rows)), path, house)
                seen += 1
            else:
                self.assertIsInstance(self.row("\n".join(rows)), int)
        self.assertGreater(seen, 10)


if __name__ == "__main__":
    unittest.main()
