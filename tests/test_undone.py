"""Promises 8 and 9: the machines that take back what others do."""

import unittest
from itertools import product

from leftroads.compare import same_written
from leftroads.machines import is_least, joined, least
from leftroads.maps import machine_of, turned
from leftroads.sources import misses, undone
from tests.made import full, random_machine, run_of_courses, told_otherwise, with_ends, with_one_change
from tests.plain import all_maps, all_roads, asked, measure, random_map_of_size, random_road, seeded
from tests.turning import (
    ALONG, COUNTED, EXCHANGED, GROWING, HELD, ONE_TO_ONE, PLAIN, SECOND_FIRST, changes, random_letters,
    random_tree_pair)

SIZES = [-4, -3, -2, -1, 1, 2, 3, 4]
COURSES = [(ahead, ring) for ahead in all_roads(2) for ring in all_roads(2)[1:]]


class Undone(unittest.TestCase):

    def check_back(self, machine, most=6):
        """It takes back: joined ahead and behind it writes each road as it is, and it is in its least form."""
        back = asked(undone, machine=machine)
        self.assertIsNotNone(back, machine)
        self.assertEqual(joined(machine, back), PLAIN)
        self.assertEqual(joined(back, machine), PLAIN)
        for road in all_roads(most):
            self.assertEqual(full(back, full(machine, road)), road)
            self.assertEqual(full(machine, full(back, road)), road)
        self.assertTrue(is_least(back))
        self.assertEqual(undone(back), least(machine))
        return back

    def check_none(self, machine):
        self.assertIsNone(asked(undone, machine=machine))

    def check(self, machine):
        """A machine that misses a road or writes one twice is not undone; where it is undone, all is taken back."""
        if misses(machine) is not None or same_written(machine) is not None:
            self.check_none(machine)
            return False
        written = [run_of_courses(machine, told) for told in COURSES]
        if len(set(written)) < len(COURSES) - self.told_twice():
            # Two courses are written alike, so that it can never be said which one it is.
            self.check_none(machine)
            return False
        self.check_back(machine, 4)
        return True

    def told_twice(self):
        return len(COURSES) - len({run_of_courses(PLAIN, told) for told in COURSES})

    def test_machines_that_write_each_road_for_one(self):
        for machine in ONE_TO_ONE:
            self.check_back(machine, 7)
            for other in told_otherwise(seeded(931), machine):
                self.assertEqual(undone(other), undone(machine))

    def test_some(self):
        self.assertEqual(undone(PLAIN), PLAIN)
        self.assertEqual(undone(EXCHANGED), EXCHANGED)
        self.assertEqual(undone(SECOND_FIRST), least(SECOND_FIRST))
        self.assertEqual(undone(COUNTED), ("", [(("R", 0), ("L", 1), ""), (("L", 1), ("R", 1), "")]))
        self.assertEqual(undone(ALONG), least(
            ("", [(("LL", 2), ("", 1), "L"), (("LR", 2), ("R", 2), ""), (("L", 2), ("R", 2), "")])))

    def test_more_states(self):
        for machine in GROWING:
            self.assertGreater(len(self.check_back(machine)[1]), len(least(machine)[1]))

    def test_roads_that_are_missed(self):
        for machine in [machine_of((1, 1, 0, 1)), ("R", PLAIN[1]), ("", [(("LL", 0), ("R", 0), "")]),
                        ("", [(("L", 0), ("R", 0), "L")])]:
            self.check_none(machine)

    def test_roads_that_are_written_twice(self):
        # None is missed.
        for machine in [("", [(("", 0), ("L", 1), ""), (("L", 1), ("R", 1), "")]),
                        ("", [(("", 1), ("R", 0), ""), (("L", 0), ("L", 0), "")]),
                        ("", [(("L", 0), ("R", 1), ""), (("", 0), ("", 0), "")])]:
            self.assertIsNotNone(same_written(machine))
            self.check_none(machine)
        both = ("", [(("", 1), ("R", 1), ""), (("L", 1), ("R", 1), "")])
        self.assertIsNone(misses(both))
        self.check_none(both)

    def test_one_road_alone_that_is_written_twice(self):
        # The roads of R alone move up by one, 1 stays: so 1 and R are sent to 1, and all courses stay as they are.
        row = ("", [(("L", 2), ("", 1), ""), (("RL", 2), ("R", 1), ""), (("L", 2), ("R", 2), "")])
        self.assertIsNone(misses(row))
        self.assertEqual(sorted(same_written(row)), ["", "R"])
        self.check_none(row)
        self.check_none(joined(EXCHANGED, row))
        self.check_none(joined(row, SECOND_FIRST))

    def test_the_first_turn_held_back_without_end(self):
        for machine in [HELD] + told_otherwise(seeded(932), HELD):
            self.assertIsNone(misses(machine))
            self.assertIsNone(same_written(machine))
            self.check_none(machine)
        swapped = ("", [(("", 1), ("", 2), ""), (("R", 1), ("LR", 3), "R"), (("R", 2), ("LL", 3), "L"),
                        (("L", 3), ("R", 3), "")])
        self.assertIsNone(misses(swapped))
        self.assertIsNone(same_written(swapped))
        self.check_none(swapped)

    def test_the_first_turn_held_back_in_all_ways(self):
        # Each turn of it exchanged or not: some of these write each road for just one, and still can't be taken back.
        found = set()
        for turns in product("LR", repeat=8):
            a, b, c, d, e, f, g, h = turns
            machine = ("", [(("", 1), ("", 2), ""), ((a, 1), (b + "L", 3), c), ((d, 2), (e + "R", 3), f),
                            ((g, 3), (h, 3), "")])
            found.add((misses(machine) is None and same_written(machine) is None, self.check(machine)))
        self.assertIn((True, False), found)
        self.assertIn((False, False), found)

    def test_held_back_for_some_turns_alone(self):
        # The first turn is held back behind one, or two, more.
        for end_left, end_right in [("L", "R"), ("R", "L")]:
            machine = ("", [(("", 1), ("", 2), ""), (("LL", 3), ("RL", 3), end_left),
                            (("LR", 3), ("RR", 3), end_right), (("L", 3), ("R", 3), "")])
            self.assertTrue(self.check(machine))
        self.assertTrue(self.check(joined(SECOND_FIRST, EXCHANGED)))
        self.assertTrue(self.check(joined(EXCHANGED, SECOND_FIRST)))

    def test_one_thing_changed(self):
        found = []
        for machine in [SECOND_FIRST, ALONG, EXCHANGED, COUNTED]:
            found += [self.check(other) for other in changes(machine, 1)]
        self.assertIn(True, found)
        self.assertIn(False, found)

    def test_trees_that_move(self):
        random = seeded(933)
        for _ in range(60):
            machine = random_tree_pair(random, random.randint(1, 4))
            self.check_back(machine, 5)
            self.check(with_one_change(random, machine))

    def test_machines_that_write_one_turn_for_each(self):
        random = seeded(934)
        for _ in range(60):
            machine = random_letters(random, random.randint(1, 4))
            self.assertEqual(len(self.check_back(machine, 5)[1]), len(least(machine)[1]))

    def test_one_behind_another(self):
        random = seeded(935)
        for _ in range(30):
            one, other = random_letters(random, 2), random_tree_pair(random, 3)
            both = joined(one, other)
            self.assertEqual(self.check_back(both, 4), joined(undone(other), undone(one)))

    def test_drawn_machines(self):
        random = seeded(936)
        for _ in range(600):
            machine = random_machine(random, random.randint(1, 4), random.randint(0, 2))
            self.check(("", machine[1]))

    def test_machines_of_maps(self):
        random = seeded(937)
        seen = set()
        for one in [one for one in all_maps(2) if abs(measure(one)) <= 4] + [
                random_map_of_size(random, 60, size) for size in SIZES for _ in range(3)] + [
                (3, 0, 0, 1), (1, 0, 0, 4), (0, 4, 1, 0), (0, 1, 3, 0)]:
            machine, back = machine_of(one), turned(one)
            seen.add(back is None)
            if back is None:
                self.check_none(machine)
            else:
                self.assertEqual(self.check_back(machine, 4), machine_of(back))
        self.assertEqual(seen, {True, False})

    def test_machines_of_maps_with_other_ends(self):
        random = seeded(938)
        for one in [(2, 0, 0, 1), (1, 0, 0, 3), (1, 0, 0, 4), (0, 4, 1, 0)]:
            for _ in range(6):
                self.assertFalse(self.check(with_ends(random, machine_of(one), 3)))

    def test_long_roads(self):
        random = seeded(939)
        for machine in ONE_TO_ONE:
            back = undone(machine)
            for _ in range(5):
                road = random_road(random, 60)
                self.assertEqual(full(back, full(machine, road)), road)


if __name__ == "__main__":
    unittest.main()
