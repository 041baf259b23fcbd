import unittest

from pushdoors import errors

WITH_VALUE = (("BadHouse", "path", (0, 1)), ("NoName", "name", "ab"), ("NoDoor", "path", (2,)),
              ("BadDeed", "number", 3), ("BadText", "row", 4))
ALL = ("BadHouse", "BadCount", "NoName", "NoDoor", "BadDeed", "BadText")


class Errors(unittest.TestCase):
    def test_the_first_of_all_is_a_value_error(self):
        self.assertTrue(issubclass(errors.DoorError, ValueError))

    def test_each_stands_under_it_and_under_no_other(self):
        for name in ALL:
            kind = getattr(errors, name)
            self.assertTrue(issubclass(kind, errors.DoorError), name)
            for other in ALL:
                if other != name:
                    self.assertFalse(issubclass(kind, getattr(errors, other)), (name, other))

    def test_each_is_made_with_its_value(self):
        for name, word, value in WITH_VALUE:
            kind = getattr(errors, name)
            self.assertEqual(getattr(kind(value), word), value)
            self.assertEqual(getattr(kind(**{word: value}), word), value)

    def test_a_bad_count_has_no_value(self):
        self.assertEqual(vars(errors.BadCount()), {})


if __name__ == "__main__":
    unittest.main()
