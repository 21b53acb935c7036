"""Promises 7 and 8: what machines write for roads and for courses."""

import unittest
from itertools import product

from leftroads.machines import least, run, run_course
from leftroads.maps import machine_of
from leftroads.roads import course
from tests.made import full, late, random_machine, some_machines, sure_rest, told_otherwise, written_without_end
from tests.plain import (
    all_maps, all_roads, asked, endless, least_way, led, measure, random_map_of_size, random_road, road_moved,
    seeded, turning_rings)

HELD = ("", [(("", 1), ("", 2), ""), (("L", 1), ("RL", 3), "L"), (("L", 2), ("RR", 3), "R"), (("L", 3), ("R", 3), "")])
COURSES = [(ahead, ring) for ahead in all_roads(2) for ring in all_roads(3)[1:]]


class Run(unittest.TestCase):

    def test_some(self):
        machine = ("R", [(("", 1), ("LR", 0), "L"), (("RR", 0), ("L", 1), "")])
        expected = {"": "RL", "L": "R", "R": "RLRL", "LL": "RRRL", "LR": "RL", "RL": "RLR", "LRL": "RLRRL"}
        for road, word in expected.items():
            self.assertEqual(asked(run, machine=machine, road=road), word)

    def test_short_roads(self):
        random = seeded(101)
        for machine in some_machines(random, 60):
            for road in all_roads(5):
                self.assertEqual(run(machine, road), full(machine, road))

    def test_forty_states_long_words_and_long_roads(self):
        random = seeded(102)
        for states in (1, 8, 17, 39, 40):
            machine = random_machine(random, states, 12)
            roads = [random_road(random, length) for length in (0, 1, 60, 399, 400)]
            for road in roads + ["L" * 400, "R" * 400, "LR" * 200]:
                self.assertEqual(asked(run, machine=machine, road=road), full(machine, road))

    def test_machines_of_maps(self):
        random = seeded(103)
        for size in (-12, -7, -2, -1, 1, 3, 5, 12):
            one = random_map_of_size(random, 60, size)
            machine = machine_of(one)
            for road in all_roads(3) + [random_road(random, 60), "L" * 60]:
                self.assertEqual(run(machine, road), road_moved(one, road))

    def test_machines_that_are_alike(self):
        random = seeded(104)
        for machine in some_machines(random, 20):
            for other in told_otherwise(random, machine):
                for road in all_roads(4):
                    self.assertEqual(run(other, road), run(machine, road))


class RunCourse(unittest.TestCase):

    def check(self, machine, told):
        answer = asked(run_course, machine=machine, told=told)
        word, goes_on = written_without_end(machine, told)
        self.assertEqual(answer is not None, goes_on)
        if answer is not None:
            self.assertEqual(endless(answer, len(word)), word)
            self.assertEqual(least_way(answer), answer)
        return answer

    def test_short_courses(self):
        random = seeded(105)
        endings = set()
        for machine in some_machines(random, 60):
            for told in COURSES:
                endings.add(self.check(machine, told) is None)
        self.assertEqual(endings, {True, False})

    def test_the_least_form_writes_the_same(self):
        random = seeded(106)
        for machine in some_machines(random, 40):
            for other in (least(machine), late(machine)):
                for told in COURSES[::3]:
                    self.assertEqual(run_course(other, told), run_course(machine, told))

    def test_told_in_any_way(self):
        random = seeded(107)
        for machine in some_machines(random, 15):
            for ahead, ring in COURSES:
                answer = run_course(machine, (ahead, ring))
                for told in [(ahead, ring * 2), (ahead + ring, ring), (ahead + ring[:1], ring[1:] + ring[:1])]:
                    self.assertEqual(self.check(machine, told), answer)

    def test_sixty_turns_ahead(self):
        random = seeded(108)
        for machine in some_machines(random, 40):
            for ahead in (random_road(random, 60), "L" * 60, "R" * 59 + "L"):
                for ring in ("L", "R", "RRL", random_road(random, 6)):
                    self.check(machine, (ahead, ring))

    def test_nothing_written_at_the_ring(self):
        lost = ("R", [(("", 0), ("R", 0), "L")])
        self.assertIsNone(run_course(lost, ("RRR", "L")))
        self.assertIsNone(run_course(lost, ("", "LL")))
        self.assertEqual(run_course(lost, ("", "LR")), ("", "R"))
        silent = ("RL", [(("LL", 1), ("RL", 1), "R"), (("", 1), ("", 1), "RRR")])
        for told in COURSES:
            self.assertIsNone(self.check(silent, told))

    def test_what_is_written_only_after_some_rounds_belongs_to_what_is_ahead(self):
        slow = ("", [(("", 1), ("R", 0), ""), (("R", 2), ("R", 0), ""), (("L", 2), ("R", 0), "")])
        self.assertEqual(run_course(slow, ("", "L")), ("R", "L"))
        self.assertEqual(run_course(slow, ("", "LLLR")), ("", "RLR"))
        self.assertEqual(run_course(HELD, ("", "L")), ("", "L"))

    def test_machines_of_maps(self):
        random = seeded(109)
        for size in (-12, -5, -1, 1, 2, 6, 12):
            machine = machine_of(random_map_of_size(random, 60, size))
            for told in [("", "L"), ("LLR", "R"), ("", "RL"), ("RRL", "LLR"), (random_road(random, 60), "RRLLRL")]:
                self.assertIsNotNone(self.check(machine, told))

    def test_rings_of_one_turn_lead_to_the_ends_of_the_maps(self):
        for one in all_maps(2):
            if abs(measure(one)) <= 12:
                machine = machine_of(one)
                for turn in "LR":
                    self.assertEqual(len(self.check(machine, ("", turn))[1]), 1)

    def test_what_it_returns_may_be_passed_on(self):
        random = seeded(110)
        for machine, other in product(some_machines(random, 8), repeat=2):
            for told in turning_rings(3):
                answer = run_course(machine, ("", told))
                if answer is not None:
                    self.check(other, answer)
                    self.assertEqual(course(*answer), answer)

    def test_long_beginnings_begin_alike(self):
        random = seeded(111)
        for machine in some_machines(random, 30):
            sure = sure_rest(machine)
            for told in COURSES[::4]:
                answer = run_course(machine, told)
                if answer is not None:
                    word, state = led(machine, endless(told, 60))
                    word = machine[0] + word + sure[state]
                    self.assertEqual(endless(answer, len(word)), word)


if __name__ == "__main__":
    unittest.main()
