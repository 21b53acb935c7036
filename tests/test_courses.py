"""Promise 5: courses, their least way, and what is asked of them."""

import unittest
from math import gcd, isqrt

from leftroads.roads import compare_courses, course, square_of, turns_of
from tests.plain import all_roads, asked, endless, ends_of, least_way, random_road, seeded, sign, turning_rings


def other_ways(told):
    """Other ways to tell a course: rings twice and thrice, turns of the ring ahead."""
    ahead, ring = told
    return [
        (ahead, ring * 2), (ahead, ring * 3), (ahead + ring, ring), (ahead + ring * 2, ring * 3),
        (ahead + ring[:1], ring[1:] + ring[:1]), (ahead + ring + ring[:-1], ring[-1:] + ring[:-1])]


class LeastWay(unittest.TestCase):

    def check(self, ahead, ring):
        self.assertEqual(asked(course, ahead=ahead, ring=ring), least_way((ahead, ring)))

    def test_all_short_ones(self):
        for ahead in all_roads(4):
            for ring in all_roads(6)[1:]:
                self.check(ahead, ring)

    def test_rings_that_come_twice_or_three_times(self):
        for ahead in all_roads(3):
            for ring in all_roads(4)[1:]:
                for told in other_ways((ahead, ring)):
                    self.check(*told)
                    self.assertEqual(course(*told), course(ahead, ring))

    def test_rings_of_one_turn(self):
        self.assertEqual(course("", "RRRRRR"), ("", "R"))
        self.assertEqual(course("RRRR", "RRR"), ("", "R"))
        self.assertEqual(course("LRRR", "RRR"), ("L", "R"))
        self.assertEqual(course("RRRR", "L"), ("RRRR", "L"))

    def test_long_roads_ahead(self):
        random = seeded(11)
        for _ in range(60):
            ring = random_road(random, random.randint(1, 6))
            own = random_road(random, random.randint(0, 20))
            self.check((own + ring * 60)[:60], ring)
            self.check(random_road(random, 60), ring)

    def test_the_least_way_is_its_own(self):
        for ahead in all_roads(3):
            for ring in all_roads(5)[1:]:
                least = course(ahead, ring)
                self.assertEqual(course(*least), least)


class Turns(unittest.TestCase):

    def test_any_number_of_turns(self):
        for told in [("", "R"), ("", "LR"), ("LLR", "RRL"), ("RL" * 30, "LLRRLR"), ("L" * 60, "L"), ("R", "LRLR")]:
            for number in list(range(30)) + [59, 60, 61, 65, 66, 67, 399, 400]:
                answer = asked(turns_of, told=told, number=number)
                self.assertEqual(len(answer), number)
                self.assertEqual(answer, endless(told, number))

    def test_any_way(self):
        for ahead in all_roads(2):
            for ring in all_roads(3)[1:]:
                for told in other_ways((ahead, ring)):
                    for number in (0, 1, 7, 400):
                        self.assertEqual(asked(turns_of, told=told, number=number), endless((ahead, ring), number))


class Compared(unittest.TestCase):

    def check(self, one, other):
        expected = order(endless(one, 400), endless(other, 400))
        answer = asked(compare_courses, one=one, other=other)
        self.assertIs(type(answer), int)
        self.assertEqual(answer, expected)
        self.assertEqual(asked(compare_courses, one=other, other=one), -expected)
        return answer

    def test_all_pairs_of_short_ones(self):
        courses = [(ahead, ring) for ahead in all_roads(2) for ring in turning_rings(3)]
        for one in courses:
            for other in courses:
                self.check(one, other)

    def test_all_pairs_of_rings(self):
        for one in turning_rings(6):
            for other in turning_rings(6):
                self.check(("", one), ("", other))

    def test_the_same_one_told_in_any_way(self):
        for ahead in all_roads(2):
            for ring in turning_rings(4):
                for told in other_ways((ahead, ring)):
                    self.assertEqual(self.check((ahead, ring), told), 0)

    def test_rings_that_part_as_late_as_can_be(self):
        self.assertEqual(self.check(("", "LLLLR"), ("", "LLLLRL")), 1)
        self.assertEqual(self.check(("", "RRRRLR"), ("", "RRRRL")), 1)
        ahead = "LR" * 27 + "LLRRLR"
        self.assertEqual(self.check((ahead, "LLLLR"), (ahead, "LLLLRL")), 1)
        self.assertEqual(self.check((ahead, "LLLLR"), (ahead + "LLLLRL", "LLLLRL")), 1)

    def test_roads_ahead_that_go_on_as_the_other_ring_does(self):
        for turns in range(1, 60):
            ahead = endless(("", "LR"), turns)
            self.assertNotEqual(self.check(("", "LR"), (ahead, "LLR")), 0)
            self.assertNotEqual(self.check((ahead, "RRL"), ("", "LR")), 0)
            self.assertNotEqual(self.check((ahead + "LLR", "LR"), ("", "LR")), 0)

    def test_courses_that_part_in_the_road_ahead(self):
        random = seeded(12)
        for at in range(60):
            ahead = random_road(random, 60)
            other = ahead[:at] + ("L" if ahead[at] == "R" else "R") + ahead[at + 1:]
            self.check((ahead, "LLR"), (other, "LLR"))


def order(one, other):
    return (one > other) - (one < other)


class Squares(unittest.TestCase):

    def check(self, told):
        answer = asked(square_of, told=told)
        a, b, c = answer
        self.assertIsInstance(answer, tuple)
        self.assertGreater(a, 0)
        self.assertEqual(gcd(a, b, c), 1)
        spread = b * b - 4 * a * c
        self.assertNotEqual(isqrt(spread) ** 2, spread)
        # The number lies between the ends of its first turns, so narrow that no other root fits.
        low, high = ends_of(endless(told, 60 + len(told[0]) + 40 * len(told[1])))
        self.assertEqual(sign(at(answer, low)) * sign(at(answer, high)), -1)
        return answer

    def test_short_ones(self):
        for ahead in all_roads(4):
            for ring in turning_rings(5):
                self.check((ahead, ring))

    def test_the_widest_ones(self):
        random = seeded(13)
        for _ in range(100):
            ring = "LR" + random_road(random, 4)
            self.check((random_road(random, 60), ring))
        self.check(("R" * 60, "LLLLLR"))
        self.check(("L" * 60, "RRRRRL"))

    def test_any_way(self):
        for ahead in all_roads(2):
            for ring in turning_rings(4):
                square = square_of((ahead, ring))
                for told in other_ways((ahead, ring)):
                    self.assertEqual(self.check(told), square)

    def test_known_roots(self):
        self.assertEqual(asked(square_of, told=("", "RLLR")), (1, 0, -2))
        self.assertEqual(asked(square_of, told=("R", "RL")), (1, -3, 1))
        self.assertEqual(asked(square_of, told=("L", "LR")), (1, -3, 1))

    def test_nothing_is_ahead_exactly_if_the_last_integer_is_below_zero(self):
        for ahead in all_roads(4):
            for ring in turning_rings(4):
                square = square_of((ahead, ring))
                self.assertEqual(course(ahead, ring)[0] == "", square[2] < 0)


def at(square, end):
    """The sign of a square at one end, which may be the one without end, (1, 0)."""
    a, b, c = square
    above, below = end
    return a * above * above + b * above * below + c * below * below


if __name__ == "__main__":
    unittest.main()
