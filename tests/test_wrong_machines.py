"""Promise 3, for squares and machines: wrong inputs, in each place and in several places at once."""

import unittest
from copy import deepcopy
from itertools import product

from leftroads.compare import agree, alike, falls, first_unlike, map_of, same_written
from leftroads.errors import InvalidMachine, InvalidRoad
from leftroads.machines import cut_in, is_least, joined, least, run, run_course
from leftroads.squares import fixing, other_root, rings, roots_of, spread
from leftroads.waits import ahead, never, number_below, number_of_roads, rest_of_roads, surely, wait, writes
from tests.wrong import (
    FEW_MACHINES, FEW_OF_MACHINES, FEW_ROADS, FRACTION, FROM_ZERO, MACHINE, MODULUS, PLAIN, RIGHT_MACHINES, RING,
    RING_NUMBER, ROAD, SQUARE, STATE, TURNING_RING, Wrongs, course_behind, named, with_state)

# Of each question: what is checked, in order, and the arguments that are made of it.
QUESTIONS = [
    (roots_of, [SQUARE], named("square")),
    (other_root, [ROAD, TURNING_RING], course_behind()),
    (spread, [ROAD, TURNING_RING], course_behind()),
    (rings, [RING_NUMBER], named("number")),
    (fixing, [ROAD, TURNING_RING, FROM_ZERO], lambda way, ring, most: {"told": (way, ring), "most": most}),
    (run, [MACHINE, ROAD], named("machine", "road")),
    (run_course, [FEW_OF_MACHINES, ROAD, RING], course_behind("machine")),
    (joined, [MACHINE, MACHINE], named("one", "other")),
    (least, [MACHINE], named("machine")),
    (is_least, [MACHINE], named("machine")),
    (cut_in, [FEW_OF_MACHINES, FEW_OF_MACHINES, ROAD],
     lambda machine, other, road: {"machine": machine, "road": road, "other": other}),
    (alike, [MACHINE, MACHINE], named("one", "other")),
    (first_unlike, [MACHINE, MACHINE], named("one", "other")),
    (agree, [MACHINE, MACHINE], named("one", "other")),
    (map_of, [MACHINE], named("machine")),
    (falls, [MACHINE], named("machine")),
    (same_written, [MACHINE], named("machine")),
    (surely, [MACHINE, ROAD], named("machine", "road")),
    (wait, [MACHINE], named("machine")),
    (ahead, [MACHINE], named("machine")),
    (writes, [MACHINE, ROAD], named("machine", "word")),
    (never, [MACHINE, FROM_ZERO], named("machine", "length")),
    (number_of_roads, [FEW_OF_MACHINES, ROAD, FROM_ZERO],
     lambda machine, word, length: {"machine": machine, "length": length, "word": word}),
    (rest_of_roads, [FEW_OF_MACHINES, (ROAD[0], FEW_ROADS, InvalidRoad), FROM_ZERO, MODULUS],
     lambda machine, word, length, modulus: {"machine": machine, "length": length, "word": word, "modulus": modulus}),
    (number_below, [FEW_OF_MACHINES, FROM_ZERO, FRACTION], named("machine", "length", "fraction")),
]
OF_ONE_MACHINE = {
    run: ["RL"], run_course: [("", "RL")], least: [], is_least: [], map_of: [], falls: [], same_written: [],
    surely: ["L"], wait: [], ahead: [], writes: ["L"], never: [2], number_of_roads: [3, "L"],
    rest_of_roads: [3, "L", 7],
    number_below: [3, (1, 2)]}


class Wrong(Wrongs, unittest.TestCase):

    def test_every_question_in_every_place_and_in_several_at_once(self):
        self.check_all(QUESTIONS)

    def test_another_letter_at_any_place_of_a_road(self):
        road = "RLLRRRLRLL"
        for at in range(len(road) + 1):
            for letter in ("x", " ", "l", "r", "1", "-", "~", "A", "M", "N"):
                for wrong in (road[:at] + letter + road[at:], road[:at] + letter + road[at + 1:]):
                    for function, arguments in [
                            (run, {"machine": PLAIN, "road": wrong}), (surely, {"machine": PLAIN, "road": wrong}),
                            (writes, {"machine": PLAIN, "word": wrong}),
                            (cut_in, {"machine": PLAIN, "road": wrong, "other": PLAIN}),
                            (run_course, {"machine": PLAIN, "told": (wrong, "L")}),
                            (run_course, {"machine": PLAIN, "told": ("", wrong)}),
                            (number_of_roads, {"machine": PLAIN, "length": 2, "word": wrong}),
                            (rest_of_roads, {"machine": PLAIN, "length": 2, "word": wrong, "modulus": 3}),
                            (spread, {"told": (wrong, "LR")}), (other_root, {"told": ("", wrong)}),
                            (fixing, {"told": (wrong, "LR"), "most": 2})]:
                        self.check(function, arguments, InvalidRoad, wrong)

    def test_another_letter_at_any_place_of_a_machine(self):
        word = "RLLR"
        for at in range(len(word) + 1):
            for letter in ("x", " ", "r", "M", "0"):
                wrong = word[:at] + letter + word[at:]
                for machine in [(wrong, [STATE, STATE])] + [with_state(state) for state in [
                        ((wrong, 0), ("R", 1), "L"), (("L", 0), (wrong, 1), ""), (("L", 1), ("", 0), wrong)]]:
                    for function, passed in OF_ONE_MACHINE.items():
                        with self.assertRaises(InvalidMachine) as caught:
                            function(machine, *passed)
                        self.check_error(caught.exception, InvalidMachine, machine)

    def test_every_state_is_checked_also_one_that_cannot_be_come_to(self):
        for many in (1, 2, 8, 40):
            for at in range(many):
                for state in [(("L", many), ("R", 0), ""), (("L", 0), ("R", -1), ""), (("L", 0), ("R", 0), "l")]:
                    rows = [(("L", 0), ("R", 0), "")] * many
                    rows[at] = state
                    for function, passed in OF_ONE_MACHINE.items():
                        with self.assertRaises(InvalidMachine) as caught:
                            function(("", rows), *passed)
                        self.check_error(caught.exception, InvalidMachine, ("", rows))

    def test_two_wrong_machines_the_first_one_is_told(self):
        for one, other in product(FEW_MACHINES, repeat=2):
            for function in (joined, alike, first_unlike, agree):
                self.check(function, {"one": one, "other": other}, InvalidMachine, one)
                self.check(function, {"one": PLAIN, "other": other}, InvalidMachine, other)
            for road in ("", "X"):
                self.check(cut_in, {"machine": one, "road": road, "other": other}, InvalidMachine, one)
                self.check(cut_in, {"machine": PLAIN, "road": road, "other": other}, InvalidMachine, other)

    def test_the_list_of_an_error_is_new_and_its_own(self):
        for function, passed in OF_ONE_MACHINE.items():
            machine = ("R", [STATE, (("L", 0), ("R", 2), "")])
            kept = deepcopy(machine)
            held = []
            for _ in range(2):
                with self.assertRaises(InvalidMachine) as caught:
                    function(machine, *passed)
                held.append(caught.exception.value)
            self.assertIsNot(held[0][1], held[1][1])
            self.assertIsNot(held[0][1], machine[1])
            held[0][1].clear()
            self.assertEqual(machine, kept)
            self.assertEqual(held[1], kept)

    def test_a_wrong_ring_of_a_course(self):
        for machine in RIGHT_MACHINES:
            self.check(run_course, {"machine": machine, "told": ("RL", "")}, InvalidRoad, "")
            self.check(run_course, {"machine": machine, "told": ("x", "")}, InvalidRoad, "x")
        for function in (other_root, spread):
            for ring in ("", "L", "RR"):
                self.check(function, {"told": ("RL", ring)}, InvalidRoad, ring)

    def test_no_ring_is_wrong_for_its_one_turn_where_none_is_asked_for_both(self):
        self.assertEqual(run_course(PLAIN, ("", "RR")), ("", "R"))
        self.assertEqual(run_course(PLAIN, ("R", "L")), ("R", "L"))


if __name__ == "__main__":
    unittest.main()
