"""Promises 5 and 9: squares, their roots as roads, the rings of a number, and the maps that fix a course."""

import unittest
from itertools import product
from math import gcd, isqrt

from leftroads.maps import course_sent, machine_of
from leftroads.machines import run_course
from leftroads.roads import compare_courses, course, square_of
from leftroads.squares import fixing, other_root, rings, roots_of, spread
from tests.plain import (
    all_maps, all_roads, asked, endless, ends_of, is_map, least_way, measure, random_road, seeded, sign, turning_rings)

COURSES = [(ahead, ring) for ahead in all_roads(3) for ring in turning_rings(4)]


def under_root(square):
    a, b, c = square
    return b * b - 4 * a * c


def is_square_number(number):
    return isqrt(number) ** 2 == number


def value(square, end):
    """A square at a fraction or at one of the outermost ends, times what is above 0."""
    a, b, c = square
    above, below = end
    return a * above * above + b * above * below + c * below * below


def roots_above_zero(square):
    """How many roots above 0 there are, by the signs of what they are the root of."""
    a, b, c = square
    if under_root(square) < 0:
        return 0
    if under_root(square) == 0:
        return int(b < 0)
    if c == 0:
        return int(b < 0)
    if c < 0:
        return 1
    return 2 if b < 0 else 0


class Roots(unittest.TestCase):

    def is_root(self, square, root):
        if isinstance(root[0], int):
            self.assertGreater(min(root), 0)
            self.assertEqual(gcd(*root), 1)
            self.assertEqual(value(square, root), 0)
            return
        self.assertEqual(least_way(root), root)
        # The root lies between the ends of each beginning of the course, of both
        # sides of which it leaves just one other root, if any.
        ahead, ring = root
        low, high = ends_of(endless(root, len(ahead) + 60 + 4 * len(ring)))
        self.assertEqual(sign(value(square, low)) * sign(value(square, high)), -1)

    def before(self, one, other):
        """Whether one root is less than another one."""
        if isinstance(one[0], int):
            return one[0] * other[1] < other[0] * one[1]
        return compare_courses(one, other) < 0

    def check(self, square):
        answer = asked(roots_of, square=square)
        self.assertIs(type(answer), list)
        self.assertEqual(len(answer), roots_above_zero(square))
        rational = is_square_number(max(0, under_root(square)))
        for root in answer:
            self.assertIs(type(root), tuple)
            self.assertIs(isinstance(root[0], int), rational)
            self.is_root(square, root)
        for one, other in zip(answer, answer[1:]):
            self.assertTrue(self.before(one, other))
        return answer

    def test_all_small_ones(self):
        seen = set()
        for square in product(range(1, 7), range(-9, 10), range(-9, 10)):
            answer = self.check(square)
            seen.add((len(answer), type(answer[0][0]) if answer else None, under_root(square) == 0))
        expected = {
            (0, None, False), (0, None, True), (1, int, True), (1, int, False), (1, str, False), (2, int, False),
            (2, str, False)}
        self.assertEqual(seen, expected)

    def test_integers_to_sixty(self):
        random = seeded(701)
        for _ in range(400):
            self.check((random.randint(1, 60), random.randint(-60, 60), random.randint(-60, 60)))
        for square in product((1, 59, 60), (-60, -59, -1, 0, 1, 60), (-60, -59, -1, 0, 1, 60)):
            self.check(square)

    def test_a_common_divisor_changes_nothing(self):
        for square in product(range(1, 4), range(-5, 6), range(-5, 6)):
            answer = roots_of(square)
            for times in (2, 3, 12):
                self.assertEqual(self.check(tuple(times * part for part in square)), answer)

    def test_some(self):
        self.assertEqual(self.check((1, 0, -2)), [("", "RLLR")])
        self.assertEqual(self.check((2, 0, -4)), [("", "RLLR")])
        self.assertEqual(self.check((1, -2, 1)), [(1, 1)])
        self.assertEqual(self.check((4, -12, 9)), [(3, 2)])
        self.assertEqual(self.check((1, 2, 1)), [])
        self.assertEqual(self.check((1, 0, 0)), [])
        self.assertEqual(self.check((3, -2, 0)), [(2, 3)])
        self.assertEqual(self.check((1, 1, -2)), [(1, 1)])
        self.assertEqual(self.check((6, -5, 1)), [(1, 3), (1, 2)])
        self.assertEqual(self.check((1, 0, 1)), [])
        self.assertEqual(self.check((1, 3, 1)), [])
        low, high = self.check((1, -60, 1))
        self.assertEqual([endless(low, 60), endless(high, 60)], ["L" * 59 + "R", "R" * 59 + "L"])

    def test_it_takes_back_the_square_of_a_course(self):
        random = seeded(702)
        courses = COURSES + [(random_road(random, 60), "RRLLRL"), ("R" * 60, "LLLLLR"), ("L" * 60, "LR")]
        for told in courses:
            square = square_of(told)
            answer = self.check(square)
            self.assertIn(course(*told), answer)
            for root in answer:
                self.assertEqual(square_of(root), square)


class OtherRoot(unittest.TestCase):

    def check(self, told):
        answer = asked(other_root, told=told)
        square = square_of(told)
        self.assertEqual(answer is not None, roots_above_zero(square) == 2)
        if answer is not None:
            self.assertNotEqual(answer, course(*told))
            self.assertEqual(least_way(answer), answer)
            self.assertEqual(square_of(answer), square)
            self.assertEqual(other_root(answer), course(*told))
        # It is above 0 exactly if something is ahead.
        self.assertIs(answer is None, course(*told)[0] == "")
        return answer

    def test_short_ones(self):
        self.assertEqual({self.check(told) is None for told in COURSES}, {True, False})

    def test_in_any_way(self):
        for ahead, ring in COURSES[::3]:
            answer = self.check((ahead, ring))
            for told in [(ahead, ring * 2), (ahead + ring, ring), (ahead + ring[:1], ring[1:] + ring[:1])]:
                self.assertEqual(asked(other_root, told=told), answer)

    def test_long_roads_ahead(self):
        random = seeded(711)
        for ring in ("LR", "RRRLLL", "LLRLRR"):
            for ahead in (random_road(random, 60), "R" * 60, "L" * 60, "LR" * 30):
                self.check((ahead, ring))

    def test_some(self):
        self.assertEqual(self.check(("R", "RL")), ("L", "LR"))
        self.assertEqual(self.check(("L", "LR")), ("R", "RL"))
        self.assertIsNone(self.check(("", "RL")))
        self.assertIsNone(self.check(("RL", "RL")))
        self.assertIsNone(self.check(("R", "LR")))


class Spread(unittest.TestCase):

    def test_it_is_that_of_the_square(self):
        for ahead, ring in COURSES:
            answer = asked(spread, told=(ahead, ring))
            self.assertEqual(answer, under_root(square_of((ahead, ring))))
            self.assertFalse(is_square_number(answer))
            self.assertEqual(spread((ahead + ring[:2], (ring[2:] + ring[:2]) * 2)), answer)

    def test_the_road_ahead_changes_nothing(self):
        random = seeded(721)
        for ring in turning_rings(5):
            numbers = {spread((ahead, ring)) for ahead in ["", "L", "R", random_road(random, 60), "R" * 60]}
            self.assertEqual(len(numbers), 1)

    def test_some(self):
        for ring, number in [("LR", 5), ("LLRR", 8), ("LLR", 12), ("LRR", 12), ("LLLR", 21)]:
            self.assertEqual(asked(spread, told=("RRL", ring)), number)


class Rings(unittest.TestCase):

    def turns_together(self, number):
        """How many tuples without a common divisor, with a above 0 and c below 0, have this number."""
        many = 0
        for b in range(-isqrt(number), isqrt(number) + 1):
            for a in range(1, number // 4 + 1):
                c, rest = divmod(b * b - number, 4 * a)
                many += rest == 0 and c < 0 and gcd(a, b, c) == 1
        return many

    def check(self, number):
        answer = asked(rings, number=number)
        self.assertIs(type(answer), list)
        self.assertEqual(len(set(answer)), len(answer))
        self.assertEqual(answer, sorted(answer, key=lambda ring: (len(ring), ring)))
        for ring in answer:
            turned = [ring[at:] + ring[:at] for at in range(len(ring))]
            # Unlike turns of a ring that is no ring twice or more; this one is the least.
            self.assertEqual(len(set(turned)), len(ring))
            self.assertEqual(ring, min(turned))
            self.assertEqual(spread(("", ring)), number)
        self.assertEqual(sum(map(len, answer)), self.turns_together(number))
        return answer

    def test_all_numbers_to_a_thousand(self):
        rests = set()
        for number in range(1, 1001):
            if not is_square_number(number):
                answer = self.check(number)
                rests.add((number % 4, answer == []))
        self.assertEqual(rests, {(0, False), (1, False), (2, True), (3, True)})

    def test_they_are_those_of_all_courses_with_the_spread(self):
        found = {}
        for ring in turning_rings(8):
            if least_way(("", ring))[1] == ring:
                least = min(ring[at:] + ring[:at] for at in range(len(ring)))
                found.setdefault(spread(("", ring)), set()).add(least)
        for number, expected in found.items():
            if number <= 1000:
                self.assertLessEqual(expected, set(rings(number)))

    def test_some(self):
        for number, expected in [
                (5, ["LR"]), (8, ["LLRR"]), (12, ["LLR", "LRR"]), (7, []), (2, []), (20, ["LLLLRRRR"]),
                (21, ["LLLR", "LRRR"]), (13, ["LLLRRR"])]:
            self.assertEqual(self.check(number), expected)

    def test_what_it_returns_may_be_passed_on(self):
        for number in (997, 1000, 985, 60, 57):
            for ring in rings(number):
                self.assertEqual(course("", ring + ring), ("", ring))
                self.assertIsNone(other_root(("", ring)))
                self.assertEqual(roots_of(square_of(("", ring))), [("", ring)])
                self.assertEqual(run_course(machine_of((0, 1, 1, 0)), ("", ring))[0], "")


class Fixing(unittest.TestCase):

    def check(self, told, most):
        answer = asked(fixing, told=told, most=most)
        a, b, c = square_of(told)
        # A map with the course as a fixed one has a square with the same roots, or is the plain one.
        expected = []
        for one in product(range(most + 1), repeat=4):
            e, f, g, h = one
            if is_map(one) and g * b == a * (h - e) and -f * a == g * c and -f * b == (h - e) * c:
                expected.append(one)
        self.assertIs(type(answer), list)
        self.assertEqual(answer, expected)
        for one in answer:
            if abs(measure(one)) <= 12:
                self.assertEqual(course_sent(one, told), course(*told))
        return answer

    def test_greatest_integers_to_four(self):
        seen = set()
        for told in COURSES:
            for most in range(5):
                seen.add(len(self.check(told, most)))
        self.assertGreater(len(seen), 5)

    def test_all_maps_one_by_one(self):
        maps = [one for one in all_maps(3)]
        for told in COURSES[::5]:
            expected = [one for one in maps if course_sent(one, told) == course(*told)]
            self.assertEqual(fixing(told, 3), expected)

    def test_greatest_integer_zero(self):
        for told in COURSES:
            self.assertEqual(asked(fixing, told=told, most=0), [])

    def test_greatest_integer_one(self):
        self.assertEqual(self.check(("", "RL"), 1), [(1, 0, 0, 1), (1, 1, 1, 0)])
        self.assertEqual(self.check(("R", "RL"), 1), [(1, 0, 0, 1)])

    def test_greatest_integer_twelve(self):
        for told in [("", "RL"), ("", "RLLR"), ("R", "RL"), ("", "LLR"), ("LL", "LR"), ("", "RRRL")]:
            answer = self.check(told, 12)
            self.assertIn((1, 0, 0, 1), answer)
            self.assertEqual(asked(fixing, told=(told[0], told[1] * 2), most=12), answer)

    def test_wide_courses_have_the_plain_map_alone(self):
        random = seeded(741)
        for _ in range(10):
            self.assertEqual(fixing((random_road(random, 60), "LRRRRL"), 12), [(1, 0, 0, 1)])


if __name__ == "__main__":
    unittest.main()
