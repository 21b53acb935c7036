"""Promise 3, for sources, rates, guesses and tables: wrong inputs, in each place and in several places at once."""

import unittest
from itertools import permutations, product

from leftroads.errors import InvalidFraction, InvalidMachine, InvalidMap, InvalidNumber, InvalidRoad
from leftroads.guesses import fitting, parting, told_back
from leftroads.rates import fastest, rate, rates, slowest
from leftroads.sources import course_source, first_source, misses, number_of_sources, undone
from leftroads.tables import machine_from, table_of
from tests.plain import all_roads
from tests.wrong import (
    FEW_OF_MACHINES, FEW_ROADS, FRACTION, FROM_ZERO, MACHINE, PLAIN, RIGHT_MACHINES, RING, ROAD, STATE,
    WRONG_MACHINES, WRONG_ROADS, Wrongs, course_behind, named, with_state)

FEW_LENGTHS = ([0, 5], [-1, -10 ** 9], InvalidNumber)
SHORT_ROAD = (["", "RL"], FEW_ROADS, InvalidRoad)
QUESTIONS = [
    (first_source, [MACHINE, ROAD], named("machine", "road")),
    (number_of_sources, [MACHINE, ROAD], named("machine", "road")),
    (course_source, [FEW_OF_MACHINES, ROAD, RING], course_behind("machine")),
    (misses, [MACHINE], named("machine")),
    (undone, [MACHINE], named("machine")),
    (rate, [FEW_OF_MACHINES, ROAD, RING], course_behind("machine")),
    (rates, [MACHINE], named("machine")),
    (slowest, [MACHINE], named("machine")),
    (fastest, [MACHINE], named("machine")),
    (table_of, [MACHINE, FEW_LENGTHS], named("machine", "length")),
    (machine_from, [([1], [0, -1, -10 ** 9], InvalidNumber), SHORT_ROAD, SHORT_ROAD, SHORT_ROAD],
     lambda most, *words: {"words": list(words), "most": most}),
    (fitting, [FRACTION, FRACTION, FROM_ZERO], lambda one, other, most: {"seen": [(one, other)], "most": most}),
]
OF_ONE_MACHINE = {
    first_source: ["RL"], number_of_sources: ["L"], course_source: [("", "RL")], misses: [], undone: [],
    rate: [("L", "R")], rates: [], slowest: [], fastest: [], table_of: [2]}
WRONG_FRACTIONS = FRACTION[1]
WRONG_MAPS = [
    (0, 0, 0, 0), (1, 1, 1, 1), (2, 1, 4, 2), (-1, 0, 0, 1), (1, -1, 0, 1), (1, 0, -1, 1), (1, 0, 0, -1),
    (-1, 0, 0, -1), (2, 0, 0, 2), (0, 3, 3, 0), (9, 0, 3, 6)]
SEEN = [((1, 1), (2, 1)), ((1, 2), (1, 1)), ((3, 1), (6, 1)), ((5, 2), (5, 1)), ((1, 7), (2, 7)), ((4, 3), (8, 3))]


class Wrong(Wrongs, unittest.TestCase):

    def test_every_question_in_every_place_and_in_several_at_once(self):
        self.check_all(QUESTIONS)

    def test_another_letter_at_any_place_of_a_road(self):
        road = "RLLRR"
        for at in range(len(road) + 1):
            for letter in ("x", " ", "l", "-", "~", "M"):
                wrong = road[:at] + letter + road[at:]
                for function, arguments in [
                        (first_source, {"machine": PLAIN, "road": wrong}),
                        (number_of_sources, {"machine": PLAIN, "road": wrong}),
                        (course_source, {"machine": PLAIN, "told": (wrong, "L")}),
                        (course_source, {"machine": PLAIN, "told": ("", wrong)}),
                        (rate, {"machine": PLAIN, "told": (wrong, "L")}),
                        (rate, {"machine": PLAIN, "told": ("R", wrong)}),
                        (machine_from, {"words": ["", wrong, "L"], "most": 1})]:
                    self.check(function, arguments, InvalidRoad, wrong)

    def test_another_letter_at_any_place_of_a_machine(self):
        for machine in [(word, [STATE, STATE]) for word in ("M", "Rx")] + [with_state(state) for state in [
                (("RxL", 0), ("R", 1), "L"), (("L", 0), (" ", 1), ""), (("L", 1), ("", 0), "r")]]:
            for function, passed in OF_ONE_MACHINE.items():
                with self.assertRaises(InvalidMachine) as caught:
                    function(machine, *passed)
                self.check_error(caught.exception, InvalidMachine, machine)

    def test_the_list_of_an_error_is_new_and_its_own(self):
        for function, passed in OF_ONE_MACHINE.items():
            machine = ("R", [STATE, (("L", 0), ("R", 2), "")])
            held = []
            for _ in range(2):
                with self.assertRaises(InvalidMachine) as caught:
                    function(machine, *passed)
                held.append(caught.exception.value)
            self.assertIsNot(held[0][1], held[1][1])
            held[0][1].clear()
            self.assertEqual(machine, ("R", [STATE, (("L", 0), ("R", 2), "")]))
            self.assertEqual(held[1], machine)

    def test_every_fraction_of_every_pair(self):
        for at, place in product(range(6), range(2)):
            for wrong in WRONG_FRACTIONS:
                seen = list(SEEN)
                seen[at] = (wrong, seen[at][1]) if place == 0 else (seen[at][0], wrong)
                for most in (2, -1):
                    self.check(fitting, {"seen": seen, "most": most}, InvalidFraction, wrong)
                for many in range(at + 1, 7):
                    # Ahead of too few unlike ones.
                    self.check(told_back, {"seen": seen[:many]}, InvalidFraction, wrong)
                    self.check(told_back, {"seen": [seen[at]] * many}, InvalidFraction, wrong)

    def test_the_first_of_several_wrong_fractions(self):
        one, other = (0, 1), (6, 4)
        for (at, place), (later, later_place) in product(product(range(3), range(2)), repeat=2):
            if (at, place) < (later, later_place):
                seen = [list(each) for each in SEEN[:3]]
                seen[at][place], seen[later][later_place] = one, other
                seen = [tuple(each) for each in seen]
                self.check(fitting, {"seen": seen, "most": -3}, InvalidFraction, one)
                self.check(told_back, {"seen": seen}, InvalidFraction, one)

    def test_too_few_unlike_fractions_ahead(self):
        for many in range(3):
            for again in range(4):
                seen = SEEN[:many] + SEEN[:1] * (again if many else 0)
                self.check(told_back, {"seen": seen}, InvalidNumber, many)
        self.check(told_back, {"seen": [((1, 1), (2, 1)), ((1, 1), (3, 1)), ((1, 1), (4, 1))]}, InvalidNumber, 1)
        self.check(told_back, {"seen": [((1, 1), (2, 1)), ((2, 1), (2, 1))]}, InvalidNumber, 2)

    def test_a_greatest_integer_below_zero(self):
        for most in (-1, -2, -10 ** 9):
            for seen in ([], SEEN[:1], SEEN):
                self.check(fitting, {"seen": seen, "most": most}, InvalidNumber, most)

    def test_every_map_of_a_list(self):
        maps = [(2, 0, 0, 1), (1, 1, 0, 1), (0, 1, 1, 0), (1, 0, 0, 2), (3, 1, 1, 1), (1, 0, 0, 1)]
        for at in range(6):
            for wrong in WRONG_MAPS:
                for many in range(at + 1, 7):
                    self.check(parting, {"maps": (maps[:at] + [wrong] + maps[at + 1:])[:many]}, InvalidMap, wrong)
        for one, other in permutations(WRONG_MAPS, 2):
            self.check(parting, {"maps": [maps[0], one, maps[1], other]}, InvalidMap, one)

    def test_words_too_many_or_too_few(self):
        for most in (1, 2, 3):
            right = all_roads(2 * most - 1)
            for many in list(range(len(right))) + [len(right) + 1, len(right) + 2, 2 * len(right) + 1, 100]:
                self.check(machine_from, {"words": (right * 40)[:many], "most": most}, InvalidNumber, many)
            self.assertEqual(machine_from(right, most), PLAIN)

    def test_every_word_of_a_table(self):
        for most in (1, 2, 3):
            right = all_roads(2 * most - 1)
            for at in range(len(right)):
                for wrong in WRONG_ROADS[at % 5::5]:
                    words = right[:at] + [wrong] + right[at + 1:]
                    self.check(machine_from, {"words": words, "most": most}, InvalidRoad, wrong)
                    # Ahead of a wrong number of words, and of another word that is none.
                    self.check(machine_from, {"words": words + ["y"], "most": most}, InvalidRoad, wrong)
                    self.check(machine_from, {"words": words[:at + 1], "most": most}, InvalidRoad, wrong)
                    for none in (0, -1):
                        self.check(machine_from, {"words": words, "most": none}, InvalidNumber, none)

    def test_most_below_one_ahead_of_all_else(self):
        for most in (0, -1, -10 ** 9):
            for words in ([], ["x"], ["", "L", "R"], ["", "L"], ["l"] * 15):
                self.check(machine_from, {"words": words, "most": most}, InvalidNumber, most)

    def test_wrong_machines_ahead_of_wrong_roads_and_lengths(self):
        for machine in WRONG_MACHINES[:8]:
            for function, passed in [(first_source, "x"), (number_of_sources, "x"), (course_source, ("x", "")),
                                     (course_source, ("", "")), (rate, ("", "")), (table_of, -1)]:
                with self.assertRaises(InvalidMachine):
                    function(machine, passed)
        for machine in RIGHT_MACHINES:
            self.check(table_of, {"machine": machine, "length": -1}, InvalidNumber, -1)


if __name__ == "__main__":
    unittest.main()
