"""Promises 5, 7 and 8: for which courses a machine writes a course."""

import unittest

from leftroads.machines import run_course
from leftroads.maps import course_sent, machine_of
from leftroads.sources import course_source
from tests.made import (
    has_course_source, late, random_machine, random_word, some_machines, told_otherwise, written_without_end)
from tests.plain import all_roads, asked, endless, least_way, random_map_of_size, seeded
from tests.turning import ALONG, HELD, ONE_TO_ONE, PLAIN

DOUBLE, HALF, NEXT = machine_of((2, 0, 0, 1)), machine_of((1, 0, 0, 2)), machine_of((1, 1, 0, 1))
SHORT = [(ahead, ring) for ahead in all_roads(2) for ring in all_roads(3)[1:]]


def random_course(random):
    return (random_word(random, 5), random.choice("LR") + random_word(random, 5))


class CourseSource(unittest.TestCase):

    def check(self, machine, told):
        answer = asked(course_source, machine=machine, told=told)
        self.assertEqual(answer is not None, has_course_source(machine, least_way(told)), (machine, told))
        if answer is not None:
            self.assertEqual(answer, least_way(answer))
            rounds = 2 * len(machine[1]) + len(told[0]) + len(told[1]) + 4
            text, goes_on = written_without_end(machine, answer, rounds)
            self.assertTrue(goes_on)
            self.assertEqual(text, endless(told, len(text)))
            self.assertEqual(run_course(machine, answer), least_way(told))
        return answer

    def test_short_courses_of_drawn_machines(self):
        random = seeded(921)
        seen = set()
        for machine in some_machines(random, 25, states=5, most=3):
            for told in SHORT:
                seen.add(self.check(machine, told) is None)
        self.assertEqual(seen, {True, False})

    def test_courses_that_are_written_for_drawn_ones(self):
        random = seeded(922)
        many = 0
        for machine in some_machines(random, 120):
            told = run_course(machine, random_course(random))
            if told is not None:
                many += 1
                self.assertIsNotNone(self.check(machine, told))
        self.assertGreater(many, 60)

    def test_with_something_else_ahead(self):
        random = seeded(923)
        seen = set()
        for machine in some_machines(random, 60, states=5):
            told = run_course(machine, random_course(random))
            if told is not None:
                ahead, ring = told
                at = random.randint(0, len(ahead))
                for other in ("L" + ahead, "R" + ahead, ahead[1:], ahead[:at] + "RL" + ahead[at:], ahead + ring[:1]):
                    seen.add(self.check(machine, (other, ring)) is None)
        self.assertEqual(seen, {True, False})

    def test_told_in_another_way_than_the_least(self):
        random = seeded(924)
        for machine in some_machines(random, 40, states=4):
            told = run_course(machine, random_course(random))
            if told is not None:
                ahead, ring = told
                for other in [(ahead, ring * 3), (ahead + ring, ring), (ahead + ring[:1], ring[1:] + ring[:1]),
                              (ahead + ring * 2, ring * 2)]:
                    self.assertIsNotNone(self.check(machine, other))

    def test_rings_of_one_turn_alone(self):
        random = seeded(925)
        seen = set()
        for machine in some_machines(random, 60, states=4):
            for told in [("", "L"), ("", "R"), ("R", "L"), ("LL", "RRR"), ("LRL", "R")]:
                seen.add(self.check(machine, told) is None)
        self.assertEqual(seen, {True, False})
        self.assertEqual(self.check(PLAIN, ("R", "RR")), ("", "R"))
        self.assertEqual(self.check(DOUBLE, ("", "R")), ("", "R"))
        self.assertIsNone(self.check(NEXT, ("L", "R")))
        self.assertEqual(self.check(NEXT, ("R", "L")), ("", "L"))

    def test_a_round_at_which_nothing_is_written_is_none(self):
        lost = ("", [(("", 0), ("R", 1), ""), (("L", 1), ("", 1), "")])
        self.assertIsNone(self.check(lost, ("", "R")))
        self.assertIsNone(self.check(lost, ("R", "R")))
        self.assertIsNotNone(self.check(lost, ("R", "L")))
        self.assertIsNone(self.check(("RRR", [(("", 0), ("", 0), "R")]), ("", "R")))
        # Silent rounds lie on the way, and must be left.
        way = ("", [(("", 0), ("L", 1), ""), (("", 1), ("R", 2), ""), (("", 2), ("L", 0), "")])
        self.assertIsNotNone(self.check(way, ("", "LRL")))
        self.assertIsNone(self.check(way, ("", "LRR")))
        one = ("", [(("", 0), ("R", 0), "")])
        self.assertIsNotNone(self.check(one, ("", "R")))

    def test_words_longer_than_the_ring(self):
        machine = ("RLRLR", [(("LRLR", 0), ("LLLL", 1), ""), (("LLL", 1), ("LLLL", 1), "")])
        self.assertIsNotNone(self.check(machine, ("", "RL")))
        self.assertIsNotNone(self.check(machine, ("RLRLR", "L")))
        self.assertIsNotNone(self.check(machine, ("RLRLRLRLR", "L")))
        self.assertIsNone(self.check(machine, ("RLR", "L")))
        self.assertIsNone(self.check(machine, ("", "RLL")))
        three = ("", [(("LLLL", 0), ("RRR", 0), "")])
        for ring, is_written in [("L", True), ("LLR", False), ("LLLLRRR", True), ("R", True), ("LLLRRRR", False)]:
            self.assertEqual(self.check(three, ("", ring)) is not None, is_written)
        self.assertIsNotNone(self.check(three, ("L", "LLLRRRL")))
        self.assertIsNone(self.check(three, ("LRR", "LLLLRRR")))

    def test_the_first_word_is_not_the_beginning(self):
        self.assertIsNone(self.check(("LR", PLAIN[1]), ("", "L")))
        self.assertEqual(self.check(("LR", PLAIN[1]), ("LRR", "L")), ("R", "L"))
        self.assertEqual(self.check(("LR", PLAIN[1]), ("", "LR")), ("", "LR"))

    def test_machines_that_write_a_source_of_each_course(self):
        for machine in ONE_TO_ONE + [HELD]:
            for told in SHORT:
                self.assertIsNotNone(self.check(machine, told))

    def test_the_turns_that_hold_back_the_first_one(self):
        # Two courses are written as L for ever: which one is told does not matter.
        self.assertIn(self.check(HELD, ("", "L")), [("", "L"), ("R", "L")])
        self.assertEqual(self.check(ALONG, ("R", "L")), ("LR", "L"))

    def test_long_courses(self):
        random = seeded(926)
        for machine in some_machines(random, 30, states=8):
            ahead = "".join(random.choice("LR") for _ in range(60))
            told = run_course(machine, (ahead, "LLRLRR"))
            if told is not None:
                self.check(machine, told)
                self.check(machine, ("R" + told[0], told[1]))
                self.check(machine, (told[0][:60], told[1][:6]))

    def test_machines_of_maps(self):
        random = seeded(927)
        for size in (-12, -5, -4, -2, -1, 1, 2, 3, 4, 7, 12):
            one = random_map_of_size(random, 20, size)
            for told in [("", "LR"), ("LLR", "RRLRL"), ("RL", "LLLRRR")]:
                sent = course_sent(one, told)
                # A map sends no two numbers to one.
                self.assertEqual(self.check(machine_of(one), sent), least_way(told))

    def test_machines_told_otherwise(self):
        random = seeded(928)
        for machine in some_machines(random, 12, states=4, most=2):
            for other in told_otherwise(random, machine) + [late(machine)]:
                for told in SHORT[::5]:
                    self.assertEqual(course_source(other, told) is None, course_source(machine, told) is None)
                    self.check(other, told)

    def test_silent_machines(self):
        random = seeded(929)
        for _ in range(60):
            machine = random_machine(random, random.randint(1, 8), 1)
            for told in [("", "L"), ("L", "RL"), ("", "R"), ("RR", "LLR")]:
                self.check(machine, told)


if __name__ == "__main__":
    unittest.main()
