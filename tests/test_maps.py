"""Promise 6: maps, their sizes, and what they send; promise 9: the order of numbers and the ends."""

import unittest
from fractions import Fraction
from math import gcd

from leftroads.maps import before, behind, least_map, sent, size, turned
from leftroads.roads import compare, road_of
from tests.plain import (
    all_maps, all_roads, asked, is_map, measure, moved, random_fraction, random_map, seeded, sign, told)

FEW = [(1, 1), (1, 2), (2, 1), (3, 5), (7, 2)]
WIDE = [(1, 1), (1, 10 ** 9), (10 ** 9, 1), (10 ** 9, 10 ** 9 - 1), (999999937, 10 ** 9)]


def wide_maps(number, many):
    random = seeded(number)
    greatest = 10 ** 6
    maps = [
        (greatest, 0, 0, 1), (1, 0, 0, greatest), (greatest, greatest - 1, 1, 0), (0, 1, greatest, greatest - 1),
        (greatest, greatest - 1, greatest - 1, greatest), (1, greatest, greatest, 1), (1, greatest, 0, 1)]
    return maps + [random_map(random, greatest) for _ in range(many)]


class LeastMaps(unittest.TestCase):

    def check(self, integers):
        a, b, c, d = integers
        answer = asked(least_map, a=a, b=b, c=c, d=d)
        self.assertIsInstance(answer, tuple)
        self.assertTrue(is_map(answer))
        self.assertEqual([each * gcd(*integers) for each in answer], list(integers))

    def test_all_small_ones_with_divisors(self):
        for one in all_maps(3):
            for factor in (1, 2, 3, 6, 35):
                self.check([factor * each for each in one])

    def test_wide_ones(self):
        random = seeded(21)
        for one in wide_maps(22, 200):
            self.check(one)
        for _ in range(200):
            factor = random.randint(2, 1000)
            self.check([factor * each for each in random_map(random, 10 ** 6 // factor)])


class Sizes(unittest.TestCase):

    def test_sizes(self):
        for one in all_maps(4) + wide_maps(23, 300):
            self.assertEqual(asked(size, one=one), measure(one))

    def test_sizes_of_both_sides(self):
        self.assertEqual(size((2, 0, 0, 1)), 2)
        self.assertEqual(size((0, 1, 1, 0)), -1)
        self.assertEqual(size((1, 2, 3, 4)), -2)
        self.assertEqual(size((10 ** 6, 0, 0, 10 ** 6 - 1)), 10 ** 6 * (10 ** 6 - 1))


class Sent(unittest.TestCase):

    def test_small_maps_and_short_roads(self):
        fractions = [told(road) for road in all_roads(4)]
        for one in all_maps(3):
            for fraction in fractions:
                self.assertEqual(asked(sent, one=one, fraction=fraction), moved(one, fraction))

    def test_wide_maps_and_fractions(self):
        random = seeded(24)
        for one in wide_maps(25, 300):
            for fraction in WIDE + [random_fraction(random, 10 ** 9) for _ in range(3)]:
                self.assertEqual(asked(sent, one=one, fraction=fraction), moved(one, fraction))

    def test_a_map_keeps_the_order_above_zero_and_turns_it_below(self):
        roads = all_roads(3)
        for one in all_maps(2) + wide_maps(26, 20):
            for road in roads:
                for other in roads:
                    sides = [road_sent(one, road), road_sent(one, other)]
                    self.assertEqual(sign_between(*sides), sign(size(one)) * compare(road, other))

    def test_it_sends_to_numbers_between_its_ends(self):
        for one in all_maps(4):
            ends = sorted([ratio(one[1], one[3]), ratio(one[0], one[2])])
            for fraction in FEW + [(1, 10 ** 9), (10 ** 9, 1)]:
                value = sent(one, fraction)
                self.assertTrue(ends[0] < Fraction(*value) < ends[1])


def road_sent(one, road):
    return Fraction(*sent(one, told(road)))


def sign_between(one, other):
    return sign(one - other)


def ratio(above, below):
    """A fraction that may be 0, or the greatest of all."""
    return Fraction(above, below) if below else float("inf")


class Behind(unittest.TestCase):

    def check(self, one, other):
        answer = asked(behind, one=one, other=other)
        self.assertIsInstance(answer, tuple)
        self.assertTrue(is_map(answer))
        for fraction in FEW:
            self.assertEqual(moved(answer, fraction), moved(other, moved(one, fraction)))

    def test_all_small_pairs(self):
        maps = all_maps(2)
        for one in maps:
            for other in maps:
                self.check(one, other)

    def test_wide_pairs(self):
        maps = wide_maps(27, 150)
        for one, other in zip(maps, reversed(maps)):
            self.check(one, other)

    def test_common_divisors_are_taken_out(self):
        self.assertEqual(behind((6, 0, 0, 1), (1, 0, 0, 6)), (1, 0, 0, 1))
        self.assertEqual(behind((2, 0, 0, 3), (9, 0, 0, 4)), (3, 0, 0, 2))
        self.assertEqual(behind((1, 1, 1, 0), (1, 0, 0, 1)), (1, 1, 1, 0))

    def test_the_one_comes_first(self):
        self.assertEqual(behind((2, 0, 0, 1), (1, 1, 0, 1)), (2, 1, 0, 1))
        self.assertEqual(behind((1, 1, 0, 1), (2, 0, 0, 1)), (2, 2, 0, 1))


class Turned(unittest.TestCase):

    def test_all_small_ones(self):
        maps = all_maps(3)
        seen = {False: 0, True: 0}
        for one in maps:
            backs = [each for each in maps if all(moved(each, moved(one, x)) == x for x in FEW)]
            answer = asked(turned, one=one)
            self.assertEqual(answer, backs[0] if backs else None)
            seen[answer is None] += 1
        self.assertGreater(min(seen.values()), 10)

    def test_wide_ones(self):
        self.assertEqual(asked(turned, one=(10 ** 6, 0, 0, 999999)), (999999, 0, 0, 10 ** 6))
        self.assertEqual(asked(turned, one=(0, 10 ** 6, 999999, 0)), (0, 10 ** 6, 999999, 0))
        for one in wide_maps(28, 200):
            answer = asked(turned, one=one)
            zeros = (one[0], one[3]) == (0, 0) or (one[1], one[2]) == (0, 0)
            self.assertEqual(answer is not None, zeros)
            if zeros:
                self.assertEqual(moved(answer, moved(one, (3, 5))), (3, 5))

    def test_one_zero_is_not_enough(self):
        for one in [(1, 1, 0, 1), (1, 0, 1, 1), (0, 1, 1, 1), (1, 1, 1, 0)]:
            self.assertIsNone(turned(one))


class Before(unittest.TestCase):

    def check(self, one, fraction):
        """A map sends to just the numbers between its ends."""
        answer = asked(before, one=one, fraction=fraction)
        ends = sorted([ratio(one[1], one[3]), ratio(one[0], one[2])])
        self.assertEqual(answer is not None, ends[0] < Fraction(*fraction) < ends[1])
        if answer is not None:
            self.assertEqual(gcd(*answer), 1)
            self.assertGreater(min(answer), 0)
            self.assertEqual(moved(one, answer), fraction)

    def test_small_maps_and_short_roads(self):
        fractions = [told(road) for road in all_roads(4)]
        for one in all_maps(3):
            for fraction in fractions:
                self.check(one, fraction)

    def test_fractions_at_the_ends(self):
        for one in all_maps(4) + wide_maps(29, 200):
            a, b, c, d = one
            for above, below in ((a, c), (b, d)):
                if above and below:
                    end = (above // gcd(above, below), below // gcd(above, below))
                    self.assertIsNone(asked(before, one=one, fraction=end))

    def test_fractions_right_beside_the_ends(self):
        for one in [(3, 1, 1, 2), (1, 3, 2, 1), (10 ** 6, 1, 3, 7), (1, 10 ** 6, 7, 3)]:
            a, b, c, d = one
            for above, below in ((a, c), (b, d)):
                for step in (-1, 1):
                    beside = Fraction(above * 10 ** 2 + step, below * 10 ** 2)
                    self.check(one, (beside.numerator, beside.denominator))

    def test_what_is_sent_comes_back(self):
        random = seeded(30)
        for one in wide_maps(31, 300):
            for fraction in [(1, 1), (1, 999), (10 ** 3, 7), random_fraction(random, 1000)]:
                self.assertEqual(asked(before, one=one, fraction=sent(one, fraction)), fraction)
            self.check(one, random_fraction(random, 10 ** 9))

    def test_roads_of_what_comes_back(self):
        for road in all_roads(6):
            self.assertEqual(road_of(before((1, 1, 0, 1), told("R" + road))), road)
            self.assertIsNone(before((1, 1, 0, 1), told("L" + road)))


if __name__ == "__main__":
    unittest.main()
