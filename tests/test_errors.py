"""Promise 3: the error classes."""

import unittest

from leftroads import errors
from leftroads.errors import RoadError

BELOW = [
    "InvalidRoad", "InvalidFraction", "InvalidMap", "InvalidMachine", "InvalidBook", "InvalidSquare",
    "InvalidNumber", "InvalidTurn", "HasEnded", "NothingToUndo", "Unreadable"]


class Errors(unittest.TestCase):

    def classes(self):
        return [getattr(errors, name) for name in BELOW]

    def test_road_error_is_a_value_error(self):
        self.assertEqual(RoadError.__bases__, (ValueError,))

    def test_every_other_class_is_a_road_error_and_nothing_else_of_the_program(self):
        for error in self.classes():
            with self.subTest(error=error.__name__):
                self.assertEqual(error.__bases__, (RoadError,))
                self.assertEqual(error.__module__, "leftroads.errors")

    def test_the_value_is_stored_itself(self):
        values = ["", "RX", 0, -1, None, True, (0, 1), [], [1, [2]], {}, {"a": []}, object(), ValueError("x")]
        for error in self.classes() + [RoadError]:
            for value in values:
                with self.subTest(error=error.__name__, value=value):
                    self.assertIs(error(value).value, value)
                    self.assertIs(error(value=value).value, value)

    def test_it_is_raised_and_caught_by_its_own_class_and_those_above(self):
        for error in self.classes():
            for above in (error, RoadError, ValueError):
                with self.subTest(error=error.__name__, above=above.__name__):
                    with self.assertRaises(above) as caught:
                        raise error(value="kept")
                    self.assertIs(type(caught.exception), error)
                    self.assertEqual(caught.exception.value, "kept")


if __name__ == "__main__":
    unittest.main()
