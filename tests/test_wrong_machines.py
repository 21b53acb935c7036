"""Promise 3, for squares and machines: wrong inputs, in each place and in several places at once."""

import unittest
from copy import deepcopy
from itertools import product

from leftroads import errors
from leftroads.compare import agree, alike, falls, first_unlike, map_of, same_written
from leftroads.errors import (
    InvalidFraction, InvalidMachine, InvalidNumber, InvalidRoad, InvalidSquare, RoadError)
from leftroads.machines import cut_in, is_least, joined, least, run, run_course
from leftroads.maps import machine_of
from leftroads.squares import fixing, other_root, rings, roots_of, spread
from leftroads.waits import ahead, never, number_below, number_of_roads, rest_of_roads, surely, wait, writes

PLAIN = ("", [(("L", 0), ("R", 0), "")])
RIGHT_MACHINES = [PLAIN, machine_of((2, 0, 0, 1))]
STATE = (("L", 0), ("RL", 1), "R")


def with_state(state):
    return ("R", [STATE, state])


# Without states, with a text that is no road at each place, and with states that there are not.
WRONG_MACHINES = [("", []), ("RL", []), ("X", [])] + [(first, [STATE, STATE]) for first in ("x", "RL ", "R1", "LM")]
WRONG_MACHINES += [with_state(state) for word in ("X", "l", "RLr", " L", "-", "LxR") for state in [
    ((word, 0), ("R", 1), "L"), (("L", 0), (word, 1), ""), (("L", 1), ("", 0), word)]]
WRONG_MACHINES += [with_state(state) for number in (-1, -2, 2, 3, 40, -10 ** 9) for state in [
    (("L", number), ("R", 1), "L"), (("L", 0), ("", number), "")]]
WRONG_MACHINES += [
    ("", [(("L", 1), ("R", 0), "")]), ("", [(("L", 0), ("R", 1), "")]), ("", [(("L", -1), ("R", 0), "")]),
    ("", [(("L", 0), ("Q", 7), "M")]), ("M", [(("M", 9), ("N", -9), "M")])]
FEW_MACHINES = [
    ("", []), ("x", [STATE, STATE]), with_state((("L", 2), ("R", 0), "")), with_state((("L", 0), ("R", 0), "r"))]

WRONG_ROADS = ["X", "l", "RLr", "xRL", "RL ", "LXR", "L1R", "-", "M", "LMR", "R" * 59 + "x", "(RL)", "~"]
FEW_ROADS = ["X", "RLr", " "]
MACHINE = (RIGHT_MACHINES, WRONG_MACHINES, InvalidMachine)
FEW_OF_MACHINES = (RIGHT_MACHINES, FEW_MACHINES, InvalidMachine)
ROAD = (["", "RL"], WRONG_ROADS, InvalidRoad)
RING = (["R", "LLR"], WRONG_ROADS + [""], InvalidRoad)
TURNING_RING = (["LR", "RRLRRL"], WRONG_ROADS + ["", "L", "R", "LLL", "RRRRRR"], InvalidRoad)
FROM_ZERO = ([0, 3], [-1, -2, -10 ** 30], InvalidNumber)
MODULUS = ([1, 10 ** 9], [0, -1, -7], InvalidNumber)
FRACTION = ([(1, 1), (10 ** 9, 618033987)], [(0, 1), (1, 0), (0, 0), (-1, 2), (1, -2), (-1, -1), (2, 2), (6, 4)],
            InvalidFraction)
SQUARE = ([(1, -1, -1), (60, 0, 0)], [(0, 1, 1), (-1, 1, 1), (0, 0, 0), (-60, 60, 60), (0, -3, 1)], InvalidSquare)
RING_NUMBER = ([2, 5, 999], [0, -1, -5, -4, 1, 4, 9, 16, 100, 961, 900], InvalidNumber)


def named(*names):
    return lambda *values: dict(zip(names, values))


def course_behind(*names):
    """The last two values are the road ahead and the ring of a course."""
    return lambda *values: {**dict(zip(names, values[:-2])), "told": values[-2:]}


# Of each question: what is checked, in order, and the arguments that are made of it.
QUESTIONS = [
    (roots_of, [SQUARE], named("square")),
    (other_root, [ROAD, TURNING_RING], course_behind()),
    (spread, [ROAD, TURNING_RING], course_behind()),
    (rings, [RING_NUMBER], named("number")),
    (fixing, [ROAD, TURNING_RING, FROM_ZERO], lambda way, ring, most: {"told": (way, ring), "most": most}),
    (run, [MACHINE, ROAD], named("machine", "road")),
    (run_course, [FEW_OF_MACHINES, ROAD, RING], course_behind("machine")),
    (joined, [MACHINE, MACHINE], named("one", "other")),
    (least, [MACHINE], named("machine")),
    (is_least, [MACHINE], named("machine")),
    (cut_in, [FEW_OF_MACHINES, FEW_OF_MACHINES, ROAD],
     lambda machine, other, road: {"machine": machine, "road": road, "other": other}),
    (alike, [MACHINE, MACHINE], named("one", "other")),
    (first_unlike, [MACHINE, MACHINE], named("one", "other")),
    (agree, [MACHINE, MACHINE], named("one", "other")),
    (map_of, [MACHINE], named("machine")),
    (falls, [MACHINE], named("machine")),
    (same_written, [MACHINE], named("machine")),
    (surely, [MACHINE, ROAD], named("machine", "road")),
    (wait, [MACHINE], named("machine")),
    (ahead, [MACHINE], named("machine")),
    (writes, [MACHINE, ROAD], named("machine", "word")),
    (never, [MACHINE, FROM_ZERO], named("machine", "length")),
    (number_of_roads, [FEW_OF_MACHINES, ROAD, FROM_ZERO],
     lambda machine, word, length: {"machine": machine, "length": length, "word": word}),
    (rest_of_roads, [FEW_OF_MACHINES, (ROAD[0], FEW_ROADS, InvalidRoad), FROM_ZERO, MODULUS],
     lambda machine, word, length, modulus: {"machine": machine, "length": length, "word": word, "modulus": modulus}),
    (number_below, [FEW_OF_MACHINES, FROM_ZERO, FRACTION], named("machine", "length", "fraction")),
]
OF_ONE_MACHINE = {
    run: ["RL"], run_course: [("", "RL")], least: [], is_least: [], map_of: [], falls: [], same_written: [],
    surely: ["L"], wait: [], ahead: [], writes: ["L"], never: [2], number_of_roads: [3, "L"], rest_of_roads: [3, "L", 7],
    number_below: [3, (1, 2)]}


class Wrong(unittest.TestCase):

    def check(self, function, arguments, error, value):
        for places, names in (((), arguments), (tuple(arguments.values()), {})):
            with self.assertRaises(RoadError) as caught:
                function(*places, **names)
            self.check_error(caught.exception, error, value)
            if error is InvalidMachine:
                self.check_new_list(caught.exception.value, arguments.values())

    def check_error(self, raised, error, value):
        self.assertIs(type(raised), error)
        self.assertIsInstance(raised, ValueError)
        self.assertIs(type(raised.value), type(value))
        self.assertEqual(raised.value, value)
        for other in vars(errors).values():
            if isinstance(other, type) and other not in (error, RoadError):
                self.assertNotIsInstance(raised, other)

    def check_new_list(self, machine, passed):
        self.assertIs(type(machine[1]), list)
        for each in passed:
            if isinstance(each, tuple) and len(each) == 2:
                self.assertIsNot(machine[1], each[1])

    def expected(self, kinds, values):
        """The error of the first value that is wrong, None if all are right."""
        for (_, wrong, error), value in zip(kinds, values):
            if value in wrong:
                return error, value
        return None

    def test_every_question_in_every_place_and_in_several_at_once(self):
        for function, kinds, arguments in QUESTIONS:
            with self.subTest(function=function.__name__):
                for values in product(*(right + wrong for right, wrong, _ in kinds)):
                    expected = self.expected(kinds, values)
                    if expected is None:
                        function(**arguments(*values))
                    else:
                        self.check(function, arguments(*values), *expected)

    def test_another_letter_at_any_place_of_a_road(self):
        road = "RLLRRRLRLL"
        for at in range(len(road) + 1):
            for letter in ("x", " ", "l", "r", "1", "-", "~", "A", "M", "N"):
                for wrong in (road[:at] + letter + road[at:], road[:at] + letter + road[at + 1:]):
                    for function, arguments in [
                            (run, {"machine": PLAIN, "road": wrong}), (surely, {"machine": PLAIN, "road": wrong}),
                            (writes, {"machine": PLAIN, "word": wrong}),
                            (cut_in, {"machine": PLAIN, "road": wrong, "other": PLAIN}),
                            (run_course, {"machine": PLAIN, "told": (wrong, "L")}),
                            (run_course, {"machine": PLAIN, "told": ("", wrong)}),
                            (number_of_roads, {"machine": PLAIN, "length": 2, "word": wrong}),
                            (rest_of_roads, {"machine": PLAIN, "length": 2, "word": wrong, "modulus": 3}),
                            (spread, {"told": (wrong, "LR")}), (other_root, {"told": ("", wrong)}),
                            (fixing, {"told": (wrong, "LR"), "most": 2})]:
                        self.check(function, arguments, InvalidRoad, wrong)

    def test_another_letter_at_any_place_of_a_machine(self):
        word = "RLLR"
        for at in range(len(word) + 1):
            for letter in ("x", " ", "r", "M", "0"):
                wrong = word[:at] + letter + word[at:]
                for machine in [(wrong, [STATE, STATE])] + [with_state(state) for state in [
                        ((wrong, 0), ("R", 1), "L"), (("L", 0), (wrong, 1), ""), (("L", 1), ("", 0), wrong)]]:
                    for function, passed in OF_ONE_MACHINE.items():
                        with self.assertRaises(InvalidMachine) as caught:
                            function(machine, *passed)
                        self.check_error(caught.exception, InvalidMachine, machine)

    def test_every_state_is_checked_also_one_that_cannot_be_come_to(self):
        for many in (1, 2, 8, 40):
            for at in range(many):
                for state in [(("L", many), ("R", 0), ""), (("L", 0), ("R", -1), ""), (("L", 0), ("R", 0), "l")]:
                    rows = [(("L", 0), ("R", 0), "")] * many
                    rows[at] = state
                    for function, passed in OF_ONE_MACHINE.items():
                        with self.assertRaises(InvalidMachine) as caught:
                            function(("", rows), *passed)
                        self.check_error(caught.exception, InvalidMachine, ("", rows))

    def test_two_wrong_machines_the_first_one_is_told(self):
        for one, other in product(FEW_MACHINES, repeat=2):
            for function in (joined, alike, first_unlike, agree):
                self.check(function, {"one": one, "other": other}, InvalidMachine, one)
                self.check(function, {"one": PLAIN, "other": other}, InvalidMachine, other)
            for road in ("", "X"):
                self.check(cut_in, {"machine": one, "road": road, "other": other}, InvalidMachine, one)
                self.check(cut_in, {"machine": PLAIN, "road": road, "other": other}, InvalidMachine, other)

    def test_the_list_of_an_error_is_new_and_its_own(self):
        for function, passed in OF_ONE_MACHINE.items():
            machine = ("R", [STATE, (("L", 0), ("R", 2), "")])
            kept = deepcopy(machine)
            held = []
            for _ in range(2):
                with self.assertRaises(InvalidMachine) as caught:
                    function(machine, *passed)
                held.append(caught.exception.value)
            self.assertIsNot(held[0][1], held[1][1])
            self.assertIsNot(held[0][1], machine[1])
            held[0][1].clear()
            self.assertEqual(machine, kept)
            self.assertEqual(held[1], kept)

    def test_a_wrong_ring_of_a_course(self):
        for machine in RIGHT_MACHINES:
            self.check(run_course, {"machine": machine, "told": ("RL", "")}, InvalidRoad, "")
            self.check(run_course, {"machine": machine, "told": ("x", "")}, InvalidRoad, "x")
        for function in (other_root, spread):
            for ring in ("", "L", "RR"):
                self.check(function, {"told": ("RL", ring)}, InvalidRoad, ring)

    def test_no_ring_is_wrong_for_its_one_turn_where_none_is_asked_for_both(self):
        self.assertEqual(run_course(PLAIN, ("", "RR")), ("", "R"))
        self.assertEqual(run_course(PLAIN, ("R", "L")), ("R", "L"))


if __name__ == "__main__":
    unittest.main()
