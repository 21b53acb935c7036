"""Promises 4 and 7: for which roads a machine writes a road, and which road it writes for none."""

import unittest

from leftroads.compare import same_written
from leftroads.machines import joined, run
from leftroads.maps import machine_of, sent, turned
from leftroads.sources import first_source, misses, number_of_sources
from tests.made import full, random_machine, random_word, some_machines, sources_of, told_otherwise, with_one_change
from tests.plain import (
    all_maps, all_roads, asked, measure, random_map_of_size, random_road, road_moved, road_to, seeded, told)
from tests.test_compare import chain
from tests.turning import (
    ALONG, EXCHANGED, EXCHANGED_BELOW, HELD, ONE_TO_ONE, PLAIN, SECOND_FIRST, changes, random_letters,
    random_tree_pair)

DOUBLE, HALF, NEXT = machine_of((2, 0, 0, 1)), machine_of((1, 0, 0, 2)), machine_of((1, 1, 0, 1))
SIZES = [-4, -3, -2, -1, 1, 2, 3, 4]


def near(random, road):
    """Roads that differ from a road by a turn put in, taken out or exchanged."""
    at = random.randint(0, len(road))
    return [road[:at] + random.choice("LR") + road[at:], road[:at] + road[at + 1:],
            road[:at] + {"L": "R", "R": "L", "": ""}[road[at:at + 1]] + road[at + 1:]]


class Sources(unittest.TestCase):

    def check(self, machine, road):
        found, number = sources_of(machine, road)
        answer = asked(first_source, machine=machine, road=road)
        self.assertEqual(answer, found, (machine, road))
        self.assertEqual(asked(number_of_sources, machine=machine, road=road), number, (machine, road))
        if answer is not None:
            self.assertEqual(full(machine, answer), road)
        return answer, number

    def test_all_short_roads_of_drawn_machines(self):
        random = seeded(901)
        numbers = set()
        for machine in some_machines(random, 40):
            for road in all_roads(3):
                numbers.add(self.check(machine, road)[1])
        self.assertLessEqual({None, 0, 1, 2, 3}, numbers)

    def test_roads_that_are_written_for_drawn_ones(self):
        random = seeded(902)
        for machine in some_machines(random, 60):
            source = random_word(random, 7)
            road = full(machine, source)[:60]
            answer, number = self.check(machine, road)
            if full(machine, source) == road:
                self.assertLessEqual((len(answer), answer), (len(source), source))
                self.assertNotEqual(number, 0)
            for other in near(random, road):
                self.check(machine, other)

    def test_held_against_all_roads_of_some_turns(self):
        random = seeded(903)
        for machine in some_machines(random, 60, states=4):
            written = {}
            for source in all_roads(7):
                written.setdefault(full(machine, source), source)
            for road, source in list(written.items())[:40]:
                self.assertEqual(first_source(machine, road), source)

    def test_silent_machines(self):
        random = seeded(904)
        numbers = set()
        for _ in range(80):
            machine = random_machine(random, random.randint(1, 8), 1)
            for road in ("", "L", "RL", "LLR"):
                numbers.add(self.check(machine, road)[1])
        self.assertTrue(max(number for number in numbers if number is not None) > 8)
        self.assertIn(None, numbers)

    def test_endless_many_told_apart_from_many(self):
        lost = ("", [(("", 0), ("R", 0), "")])
        self.assertEqual(self.check(lost, "R"), ("R", None))
        self.assertEqual(self.check(lost, "L"), (None, 0))
        # Each of 7 silent states leads twice to the next one: 128 roads, and no more.
        rows = [(("", state + 1), ("", state + 1), "L") for state in range(7)] + [(("R", 7), ("R", 7), "")]
        self.assertEqual(self.check(("", rows), ""), ("LLLLLLL", 128))
        self.assertEqual(self.check(("", rows), "R" * 40), ("L" * 47, 2 ** 47))
        self.assertEqual(self.check(("", rows), "L"), ("", 127))
        # It comes round silently, but only where this leads nowhere that completes the road.
        rows = [(("L", 1), ("R", 2), "L"), (("", 1), ("", 1), "R"), (("", 2), ("", 3), "L"), (("L", 3), ("R", 3), "")]
        self.assertEqual(self.check(("", rows), "L"), ("", 1))
        self.assertEqual(self.check(("", rows), "LR"), ("L", None))
        self.assertEqual(self.check(("", rows), "LL"), (None, 0))
        self.assertEqual(self.check(("", rows), "RL"), ("R", None))
        self.assertEqual(self.check(("", rows), ""), (None, 0))

    def test_silent_rounds_that_cannot_be_come_to(self):
        rows = [(("L", 0), ("R", 0), ""), (("", 1), ("", 0), "")]
        self.assertEqual(self.check(("", rows), "LRR"), ("LRR", 1))
        rows = [(("L", 1), ("R", 0), ""), (("", 1), ("LLL", 0), "RR")]
        self.assertEqual(self.check(("", rows), "RR"), ("RR", 1))
        self.assertEqual(self.check(("", rows), "LLLLR"), ("LRR", None))

    def test_machines_that_write_another_turn_at_their_last_state_alone(self):
        for states in range(2, 9):
            for end in ("", "L"):
                machine = chain(states, end, "L")
                for road in ("R" * (states - 1), "R" * states, "R" * (states - 1) + "L", "R" * (states - 1) + "LL",
                             "R" * (states - 2) + "L", ""):
                    self.check(machine, road)
            self.assertEqual(self.check(chain(states, "", "L"), "R" * states), (None, 0))
            self.assertEqual(self.check(chain(states, "", "L"), "R" * (states - 1) + "L")[1], 2)

    def test_roads_of_sixty_turns(self):
        random = seeded(905)
        for machine in some_machines(random, 12, states=4) + [PLAIN, DOUBLE, HALF, HELD]:
            source = random_road(random, 60)
            for road in [full(machine, source[:length])[:60] for length in (15, 30, 60)] + [source, "R" * 60]:
                self.check(machine, road)
        self.assertEqual(first_source(PLAIN, source), source)
        self.assertEqual(number_of_sources(PLAIN, source), 1)

    def test_roads_that_are_never_written(self):
        for machine, roads in [(NEXT, ["", "L", "LL", "LRR"]), (("RL", PLAIN[1]), ["", "R", "L", "RR", "RR"]),
                               (("", [(("LL", 0), ("RR", 0), "")]), ["L", "R", "LR", "LLR", "RRL"]),
                               (("", [(("L", 0), ("R", 0), "R")]), ["", "L", "RL"])]:
            for road in roads:
                self.assertEqual(self.check(machine, road), (None, 0))

    def test_machines_of_maps(self):
        random = seeded(906)
        for size in SIZES + [-12, 7, 12]:
            one = random_map_of_size(random, 20, size)
            for road in all_roads(3) + [road_moved(one, random_road(random, 12))]:
                source = first_source(machine_of(one), road)
                number = number_of_sources(machine_of(one), road)
                if source is None:
                    self.assertEqual(number, 0)
                else:
                    # Maps write no road twice.
                    self.assertEqual(number, 1)
                    self.assertEqual(sent(one, told(source)), told(road))
                back = tuple(one[at] * (1, -1, -1, 1)[at] for at in (3, 1, 2, 0))
                above, below = told(road)
                high, low = back[0] * above + back[1] * below, back[2] * above + back[3] * below
                self.assertEqual(source is None, high * low <= 0)

    def test_machines_told_otherwise(self):
        random = seeded(907)
        for machine in some_machines(random, 20, states=5):
            for other in told_otherwise(random, machine):
                for road in all_roads(3):
                    self.assertEqual(first_source(other, road), first_source(machine, road))
                    self.assertEqual(number_of_sources(other, road), number_of_sources(machine, road))


class Misses(unittest.TestCase):

    def check(self, machine, most=4):
        """Hold it against a search through all roads to some turns, in their order."""
        answer = asked(misses, machine=machine)
        if answer is not None and len(answer) <= most:
            for road in all_roads(len(answer)):
                if (len(road), road) < (len(answer), answer):
                    self.assertIsNotNone(sources_of(machine, road)[0], (machine, road))
        else:
            for road in all_roads(most):
                self.assertIsNotNone(sources_of(machine, road)[0], (machine, road))
        if answer is not None:
            self.assertEqual(sources_of(machine, answer), (None, 0))
        return answer

    def test_drawn_machines(self):
        random = seeded(911)
        lengths = set()
        for _ in range(500):
            machine = random_machine(random, random.randint(1, 4), random.randint(0, 2))
            answer = self.check(("", machine[1]) if random.random() < 0.8 else machine)
            lengths.add(None if answer is None else len(answer))
        self.assertLessEqual({None, 0, 1, 2}, lengths)

    def test_machines_that_write_each_road(self):
        for machine in ONE_TO_ONE + [HELD]:
            self.assertIsNone(self.check(machine, 5))
            for other in told_otherwise(seeded(912), machine)[:3]:
                self.assertIsNone(misses(other))

    def test_one_thing_changed(self):
        lengths = set()
        for machine in [SECOND_FIRST, ALONG, EXCHANGED, EXCHANGED_BELOW]:
            for other in changes(machine, 1):
                answer = self.check(other, 3)
                lengths.add(None if answer is None else len(answer))
        self.assertLessEqual({None, 0, 1, 2, 3}, lengths)

    def test_one_thing_changed_where_the_first_turn_is_held_back(self):
        found = set()
        for other in changes(HELD):
            answer = misses(other)
            if answer is not None:
                self.assertIsNone(first_source(other, answer))
                for road in all_roads(min(len(answer), 6)):
                    if (len(road), road) < (len(answer), answer):
                        self.assertIsNotNone(first_source(other, road))
            found.add(answer)
        self.assertIn(None, found)
        self.assertTrue(max(len(answer or "") for answer in found) >= 3)

    def test_trees_that_move(self):
        random = seeded(913)
        for _ in range(60):
            machine = random_tree_pair(random, random.randint(1, 4))
            self.assertIsNone(self.check(machine))
            self.check(with_one_change(random, machine), 3)

    def test_machines_that_write_one_turn_for_each(self):
        random = seeded(914)
        for _ in range(40):
            machine = random_letters(random, random.randint(1, 4))
            self.assertIsNone(self.check(machine))
            self.check(with_one_change(random, machine), 3)

    def test_a_road_far_away(self):
        # All roads but those that begin with R in a row, so many as there are states less one.
        for states in range(2, 9):
            self.assertEqual(misses(chain(states, "", "L")), "R" * states)
            self.assertEqual(misses(chain(states, "L", "R")), "R" * (states - 1))
            self.assertIsNone(misses(chain(states, "", "R")))

    def test_the_first_road_of_several(self):
        self.assertEqual(misses(("", [(("LL", 0), ("RR", 0), "")])), "L")
        self.assertEqual(misses(("", [(("L", 0), ("RR", 0), "")])), "R")
        self.assertEqual(misses(("", [(("L", 1), ("R", 0), ""), (("R", 1), ("R", 1), "")])), "LL")
        self.assertEqual(misses(("", [(("R", 1), ("L", 0), ""), (("R", 1), ("R", 1), "")])), "RL")
        # LR is missed in one way and RL in another one.
        self.assertEqual(misses(("", [(("L", 1), ("R", 2), ""), (("L", 1), ("LL", 1), ""),
                                      (("RR", 2), ("R", 2), "")])), "LR")
        self.assertEqual(misses(("L", PLAIN[1])), "")
        self.assertEqual(misses(("", [(("L", 0), ("R", 0), "L")])), "")

    def test_roads_that_are_written_only_for_very_long_ones(self):
        # Silence comes round, so that each state is come to by endless many roads.
        self.assertIsNone(self.check(("", [(("", 1), ("L", 0), ""), (("R", 0), ("", 1), "")])))
        self.assertIsNone(self.check(("", [(("", 1), ("L", 0), ""), (("", 2), ("", 2), "L"),
                                           (("", 3), ("R", 0), "R"), (("RL", 0), ("RR", 0), "")])))

    def test_what_neither_end_nor_turn_completes(self):
        # Each road that ends in the midst of a word is written by an end, or missed.
        rows = [(("LL", 0), ("", 1), ""), (("LR", 0), ("R", 0), "L")]
        self.assertIsNone(self.check(("", rows)))
        rows = [(("LL", 0), ("", 1), ""), (("LR", 0), ("R", 0), "LL")]
        self.assertEqual(self.check(("", rows)), "L")
        self.assertIsNone(same_written(("", rows[:1] + [(("LR", 0), ("R", 0), "L")])))

    def test_machines_of_maps(self):
        random = seeded(915)
        for one in [one for one in all_maps(2) if abs(measure(one)) <= 4] + [
                random_map_of_size(random, 60, size) for size in SIZES for _ in range(4)]:
            answer = self.check(machine_of(one), 2)
            # Just the numbers between b / d and a / c are sent to, which are all if the map has a turned one.
            self.assertEqual(answer is None, turned(one) is not None)

    def test_machines_of_maps_with_one_change(self):
        random = seeded(916)
        for size in (-4, -3, 2, 3, 4):
            for base in ((abs(size), 0, 0, 1), (0, 1, abs(size), 0)):
                for _ in range(8):
                    machine = with_one_change(random, machine_of(base))
                    answer = misses(machine)
                    if answer is not None:
                        self.assertIsNone(first_source(machine, answer))
                    for road in all_roads(3):
                        if answer is None or (len(road), road) < (len(answer), answer):
                            self.assertIsNotNone(first_source(machine, road))

    def test_double_and_half_for_all_roads(self):
        for machine in (DOUBLE, HALF):
            for road in all_roads(5):
                self.assertEqual(run(machine, first_source(machine, road)), road)
        self.assertEqual([first_source(DOUBLE, road) for road in all_roads(3)],
                         [road_to(sent((1, 0, 0, 2), told(road))) for road in all_roads(3)])
        self.assertEqual(joined(DOUBLE, HALF), PLAIN)


if __name__ == "__main__":
    unittest.main()
