"""Promise 3: wrong inputs, in each place and in several places at once."""

import unittest
from itertools import product

from leftroads import errors
from leftroads.errors import InvalidFraction, InvalidMap, InvalidNumber, InvalidRoad, RoadError
from leftroads.maps import (
    before, behind, course_sent, fixed, least_map, machine_of, sent, size, standings, turned)
from leftroads.roads import compare, compare_courses, course, number_of, road_of, square_of, turns_of

# Of each kind of input: right ones, wrong ones, and the error of the wrong ones.
WRONG_ROADS = ["X", "l", "RLr", "xRL", "RL ", "LXR", "L R", "L1R", "-", "R" * 59 + "x", "(RL)", "~"]
ROAD = (["", "RL"], WRONG_ROADS, InvalidRoad)
RING = (["R", "LLR"], WRONG_ROADS + [""], InvalidRoad)
TURNING_RING = (["LR", "RRLRRL"], WRONG_ROADS + ["", "L", "R", "LLL", "RRRRRR"], InvalidRoad)
WRONG_FRACTIONS = [
    (0, 1), (1, 0), (0, 0), (-1, 2), (1, -2), (-1, -1), (-3, -2), (2, 2), (6, 4), (10 ** 9, 10), (0, 5), (5, 0)]
FRACTION = ([(1, 1), (10 ** 9, 618033987)], WRONG_FRACTIONS, InvalidFraction)
UNSIZED_MAPS = [
    (0, 0, 0, 0), (1, 1, 1, 1), (0, 0, 1, 1), (1, 0, 1, 0), (0, 1, 0, 1), (2, 1, 4, 2), (6, 2, 3, 1), (1, 2, 0, 0),
    (10 ** 6, 10 ** 6, 1, 1)]
BELOW_ZERO_MAPS = [
    (-1, 0, 0, 1), (1, -1, 0, 1), (1, 0, -1, 1), (1, 0, 0, -1), (-1, 0, 0, -1), (0, -1, -1, 0), (-2, 1, 1, 3),
    (1, 2, 3, -4), (-2, -2, -2, -2)]
DIVIDED_MAPS = [(2, 0, 0, 2), (4, 2, 2, 6), (0, 3, 3, 0), (9, 0, 3, 6), (10 ** 6, 0, 0, 2), (0, 5, 10, 15)]
MAP = ([(2, 0, 0, 1), (0, 1, 1, 0)], UNSIZED_MAPS + BELOW_ZERO_MAPS + DIVIDED_MAPS, InvalidMap)
UNDIVIDED_MAP = ([(1, 1, 0, 1)] + DIVIDED_MAPS[:3], UNSIZED_MAPS + BELOW_ZERO_MAPS, InvalidMap)
FROM_ZERO = ([0, 7], [-1, -2, -400], InvalidNumber)

# Of each question: what is checked, in order, and the arguments that are made of it.
QUESTIONS = [
    (number_of, [ROAD], lambda road: {"road": road}),
    (road_of, [FRACTION], lambda fraction: {"fraction": fraction}),
    (compare, [ROAD, ROAD], lambda one, other: {"one": one, "other": other}),
    (course, [ROAD, RING], lambda ahead, ring: {"ahead": ahead, "ring": ring}),
    (turns_of, [ROAD, RING, FROM_ZERO], lambda ahead, ring, number: {"told": (ahead, ring), "number": number}),
    (square_of, [ROAD, TURNING_RING], lambda ahead, ring: {"told": (ahead, ring)}),
    (least_map, [UNDIVIDED_MAP], lambda one: dict(zip("abcd", one))),
    (size, [MAP], lambda one: {"one": one}),
    (sent, [MAP, FRACTION], lambda one, fraction: {"one": one, "fraction": fraction}),
    (behind, [MAP, MAP], lambda one, other: {"one": one, "other": other}),
    (turned, [MAP], lambda one: {"one": one}),
    (before, [MAP, FRACTION], lambda one, fraction: {"one": one, "fraction": fraction}),
    (machine_of, [MAP], lambda one: {"one": one}),
    (standings, [MAP], lambda one: {"one": one}),
    (course_sent, [MAP, ROAD, TURNING_RING], lambda one, ahead, ring: {"one": one, "told": (ahead, ring)}),
    (fixed, [MAP], lambda one: {"one": one}),
]
FEW_COURSES = (ROAD[0] + ["X", "RLr"], TURNING_RING[0] + ["", "RRR", "LxR"])


class Wrong(unittest.TestCase):

    def check(self, function, named, error, value):
        for places, names in (((), named), (tuple(named.values()), {})):
            with self.assertRaises(RoadError) as caught:
                function(*places, **names)
            self.check_error(caught.exception, error, value)

    def check_error(self, raised, error, value):
        self.assertIs(type(raised), error)
        self.assertIsInstance(raised, ValueError)
        self.assertIs(type(raised.value), type(value))
        self.assertEqual(raised.value, value)
        for other in vars(errors).values():
            if isinstance(other, type) and other not in (error, RoadError):
                self.assertNotIsInstance(raised, other)

    def expected(self, kinds, values):
        """The error of the first value that is wrong, None if all are right."""
        for (right, wrong, error), value in zip(kinds, values):
            if value in wrong:
                return error, value
        return None

    def test_every_question_in_every_place_and_in_several_at_once(self):
        for function, kinds, arguments in QUESTIONS:
            for values in product(*(right + wrong for right, wrong, _ in kinds)):
                with self.subTest(function=function.__name__, values=values):
                    expected = self.expected(kinds, values)
                    if expected is None:
                        function(**arguments(*values))
                    else:
                        self.check(function, arguments(*values), *expected)

    def test_two_courses(self):
        kinds = [ROAD, TURNING_RING, ROAD, TURNING_RING]
        kinds = [(right, few[len(right):], error) for (right, _, error), few in zip(kinds, FEW_COURSES * 2)]
        for values in product(*(right + wrong for right, wrong, _ in kinds)):
            named = {"one": values[:2], "other": values[2:]}
            expected = self.expected(kinds, values)
            with self.subTest(values=values):
                if expected is None:
                    self.assertIn(compare_courses(**named), (-1, 0, 1))
                else:
                    self.check(compare_courses, named, *expected)

    def test_every_wrong_part_of_two_courses(self):
        for road in ROAD[1]:
            self.check(compare_courses, {"one": (road, "LR"), "other": ("", "LR")}, InvalidRoad, road)
            self.check(compare_courses, {"one": ("", "LR"), "other": (road, "LR")}, InvalidRoad, road)
        for ring in TURNING_RING[1]:
            self.check(compare_courses, {"one": ("L", ring), "other": ("", "LR")}, InvalidRoad, ring)
            self.check(compare_courses, {"one": ("L", "LR"), "other": ("", ring)}, InvalidRoad, ring)

    def test_another_letter_at_any_place(self):
        road = "RLLRRRLRLL"
        for at in range(len(road) + 1):
            for sign in ("x", " ", "l", "r", "1", "-", "~", "A"):
                for wrong in (road[:at] + sign + road[at:], road[:at] + sign + road[at + 1:]):
                    self.check(number_of, {"road": wrong}, InvalidRoad, wrong)
                    self.check(compare, {"one": road, "other": wrong}, InvalidRoad, wrong)
                    self.check(course, {"ahead": wrong, "ring": "L"}, InvalidRoad, wrong)
                    self.check(course, {"ahead": "", "ring": wrong}, InvalidRoad, wrong)
                    self.check(turns_of, {"told": ("", wrong), "number": 1}, InvalidRoad, wrong)
                    self.check(square_of, {"told": (wrong, "LR")}, InvalidRoad, wrong)
                    self.check(course_sent, {"one": (2, 0, 0, 1), "told": ("", wrong)}, InvalidRoad, wrong)

    def test_the_value_is_what_was_passed(self):
        road, fraction, one = "".join(["R", "x"]), tuple([2, 2]), tuple([1, 1, 1, 1])
        for function, value in [(number_of, road), (road_of, fraction), (size, one)]:
            with self.assertRaises(RoadError) as caught:
                function(value)
            self.assertIs(caught.exception.value, value)


if __name__ == "__main__":
    unittest.main()
