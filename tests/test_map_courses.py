"""What maps do with courses, and what they send to itself."""

import unittest

from leftroads.maps import course_sent, fixed
from leftroads.roads import course
from tests.plain import (
    all_maps, all_roads, asked, endless, ends_of, least_way, measure, moved, random_map, random_map_of_size,
    random_road, road_between, seeded, sign, turning_rings)

SIZES = [number for number in range(-12, 13) if number != 0]


def end_moved(one, end):
    """Where a map sends one end, which may be 0 or the one without end, (1, 0)."""
    a, b, c, d = one
    above, below = end
    return (a * above + b * below, c * above + d * below)


def turns_sent(one, told, number):
    """Turns that are sure of what a map sends a course to, by the ends of so many of its first turns."""
    low, high = (end_moved(one, end) for end in ends_of(endless(told, number)))
    if low[0] * high[1] > high[0] * low[1]:
        low, high = high, low
    return road_between(low, high)


class CourseSent(unittest.TestCase):

    def check(self, one, told, number):
        answer = asked(course_sent, one=one, told=told)
        self.assertIsInstance(answer, tuple)
        turns = turns_sent(one, told, number)
        self.assertEqual(endless(answer, len(turns)), turns)
        # So many turns leave no other course open.
        self.assertGreater(len(turns), len(answer[0]) + 3 * len(answer[1]))
        self.assertEqual(answer, least_way(answer))
        return answer

    def test_small_maps_and_short_courses(self):
        for one in all_maps(2):
            for ahead in all_roads(1):
                for ring in turning_rings(3):
                    self.check(one, (ahead, ring), 200)

    def test_maps_of_all_sizes(self):
        random = seeded(61)
        for size in SIZES:
            for _ in range(6):
                one = random_map_of_size(random, 60, size)
                ring = random_road(random, random.randint(0, 4)) + random.choice(["LR", "RL"])
                self.check(one, (random_road(random, random.randint(0, 8)), ring), 1200)

    def test_the_widest_courses(self):
        random = seeded(62)
        for size in (-12, -7, -1, 1, 11, 12):
            one = random_map_of_size(random, 60, size)
            self.check(one, (random_road(random, 60), "LLRRLR"), 1200)
            self.check(one, ("R" * 60, "LLLLLR"), 1200)

    def test_courses_told_in_other_ways(self):
        for one in [(2, 0, 0, 1), (1, 5, 1, 2), (0, 1, 1, 0), (7, 3, 1, 1)]:
            for ahead in all_roads(2):
                for ring in ("LR", "RL", "LLR", "RLL"):
                    least = self.check(one, (ahead, ring), 400)
                    for told in [(ahead, ring * 2), (ahead + ring, ring), (ahead + ring, ring * 3),
                                 (ahead + ring[:1], ring[1:] + ring[:1])]:
                        self.assertEqual(asked(course_sent, one=one, told=told), least)

    def test_known_ones(self):
        self.assertEqual(course_sent((1, 0, 0, 1), ("R", "LR")), ("", "RL"))
        self.assertEqual(course_sent((0, 1, 1, 0), ("LL", "LR")), ("RR", "RL"))
        self.assertEqual(course_sent((1, 1, 0, 1), ("LL", "RLL")), ("", "RLL"))
        self.assertEqual(course_sent((1, 1, 1, 0), ("", "RL")), ("", "RL"))


class Fixed(unittest.TestCase):

    def check(self, one):
        answer = asked(fixed, one=one)
        if one == (1, 0, 0, 1):
            self.assertIsNone(answer)
            return "all"
        self.assertIs(type(answer), list)
        # c * x * x + (d - a) * x - b changes its sign once above 0, or never.
        a, b, c, d = one
        beside_zero, far_out = sign(-b) or sign(d - a), sign(c) or sign(d - a)
        self.assertEqual(len(answer), 1 if beside_zero * far_out < 0 else 0)
        if not answer:
            return "none"
        found = answer[0]
        if isinstance(found[0], int):
            self.assertEqual(moved(one, found), found)
            return "fraction"
        self.check_course(one, found)
        return "course"

    def check_course(self, one, found):
        self.assertEqual(found, course(*found))
        self.assertIn("L", found[1])
        self.assertIn("R", found[1])
        a, b, c, d = one
        signs = [
            sign(c * above * above + (d - a) * above * below - b * below * below)
            for above, below in ends_of(endless(found, 400 + len(found[1])))]
        self.assertEqual(signs[0] * signs[1], -1)

    def test_all_small_ones(self):
        kinds = [self.check(one) for one in all_maps(5)]
        for kind in ("all", "none", "fraction", "course"):
            self.assertIn(kind, kinds)

    def test_wide_ones(self):
        random = seeded(63)
        kinds = [self.check(random_map(random, 60)) for _ in range(600)]
        for kind in ("none", "fraction", "course"):
            self.assertIn(kind, kinds)
        for one in [
                (60, 59, 59, 60), (59, 60, 60, 59), (60, 60, 60, 59), (0, 60, 59, 0), (0, 1, 60, 59), (1, 60, 1, 0)]:
            self.check(one)

    def test_maps_with_zeros(self):
        self.assertIsNone(asked(fixed, one=(1, 0, 0, 1)))
        for one, answer in [
                ((2, 0, 0, 1), []), ((1, 0, 0, 2), []), ((1, 1, 0, 1), []), ((1, 0, 1, 1), []),
                ((1, 5, 0, 3), [(5, 2)]), ((3, 5, 0, 1), []), ((1, 6, 0, 4), [(2, 1)]),
                ((5, 0, 2, 1), [(2, 1)]), ((1, 0, 2, 5), []), ((7, 0, 4, 1), [(3, 2)]),
                ((0, 1, 1, 0), [(1, 1)]), ((0, 4, 9, 0), [(2, 3)]), ((0, 2, 1, 0), [("", "RLLR")]),
                ((0, 1, 1, 1), [("", "LR")]), ((1, 1, 1, 0), [("", "RL")])]:
            self.assertEqual(asked(fixed, one=one), answer)

    def test_squares_with_fractions_as_roots(self):
        for one, answer in [
                ((1, 2, 1, 0), [(2, 1)]), ((0, 1, 2, 1), [(1, 2)]), ((1, 4, 1, 1), [(2, 1)]),
                ((1, 1, 4, 1), [(1, 2)]), ((1, 6, 1, 2), [(2, 1)]), ((60, 59, 59, 60), [(1, 1)])]:
            self.assertEqual(asked(fixed, one=one), answer)

    def test_what_is_fixed_is_sent_to_itself(self):
        seen = 0
        for one in all_maps(3):
            for found in fixed(one) or []:
                if isinstance(found[0], str):
                    seen += 1
                    self.assertEqual(found[0], "")
                    self.assertEqual(course_sent(one, found), found)
                    self.assertEqual(turns_sent(one, found, 200), endless(found, len(turns_sent(one, found, 200))))
        self.assertGreater(seen, 30)

    def test_every_size(self):
        for one in all_maps(3):
            self.assertEqual(fixed(one) is None, one == (1, 0, 0, 1) and measure(one) == 1)


if __name__ == "__main__":
    unittest.main()
