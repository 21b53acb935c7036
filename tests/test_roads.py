"""Promise 4: roads, fractions and their order."""

import unittest
from fractions import Fraction
from math import gcd

from leftroads.roads import compare, number_of, road_of
from tests.plain import all_roads, asked, random_fraction, random_road, road_to, seeded, sign, told


class Numbers(unittest.TestCase):

    def test_the_empty_road_tells_one(self):
        self.assertEqual(asked(number_of, road=""), (1, 1))
        self.assertEqual(asked(road_of, fraction=(1, 1)), "")

    def test_r_adds_one_and_l_divides_by_one_more(self):
        for rest in all_roads(8):
            x = Fraction(*number_of(rest))
            self.assertEqual(Fraction(*number_of("R" + rest)), x + 1)
            self.assertEqual(Fraction(*number_of("L" + rest)), x / (x + 1))

    def test_all_short_roads_lead_down_the_tree(self):
        for road in all_roads(10):
            fraction = asked(number_of, road=road)
            self.assertEqual(fraction, told(road))
            self.assertEqual(gcd(*fraction), 1)
            self.assertEqual(asked(road_of, fraction=fraction), road)

    def test_each_fraction_has_one_road(self):
        fractions = [(above, below) for above in range(1, 41) for below in range(1, 41) if gcd(above, below) == 1]
        roads = [road_of(fraction) for fraction in fractions]
        self.assertEqual(len(set(roads)), len(fractions))
        self.assertEqual([number_of(road) for road in roads], fractions)

    def test_whole_numbers_and_their_parts_have_roads_of_one_turn(self):
        for number in list(range(1, 60)) + [399, 400, 401]:
            self.assertEqual(asked(road_of, fraction=(number, 1)), "R" * (number - 1))
            self.assertEqual(asked(road_of, fraction=(1, number)), "L" * (number - 1))
            self.assertEqual(asked(number_of, road="R" * (number - 1)), (number, 1))
            self.assertEqual(asked(number_of, road="L" * (number - 1)), (1, number))

    def test_roads_of_400_turns(self):
        random = seeded(1)
        roads = ["RL" * 200, "LR" * 200, "R" * 200 + "L" * 200, "L" * 399 + "R", "R" * 399 + "L"]
        roads += [random_road(random, 400) for _ in range(50)]
        for road in roads:
            self.assertEqual(asked(number_of, road=road), told(road))
            self.assertEqual(asked(road_of, fraction=told(road)), road)

    def test_fractions_to_a_milliard(self):
        random = seeded(2)
        fractions = [(10 ** 9, 10 ** 9 - 1 - 10 ** 7), (10 ** 9 - 1, 10 ** 7), (999999937, 10 ** 9)]
        fractions += [random_fraction(random, 10 ** 9) for _ in range(300)]
        seen = 0
        for above, below in fractions:
            common = gcd(above, below)
            fraction = (above // common, below // common)
            if turns_to(fraction) <= 400:
                seen += 1
                road = asked(road_of, fraction=fraction)
                self.assertEqual(road, road_to(fraction))
                self.assertEqual(asked(number_of, road=road), fraction)
        self.assertGreater(seen, 200)


def turns_to(fraction):
    above, below = fraction
    total = 0
    while below:
        total += above // below
        above, below = below, above % below
    return total - 1


class Compared(unittest.TestCase):

    def check(self, one, other):
        expected = sign(Fraction(*told(one)) - Fraction(*told(other)))
        answer = asked(compare, one=one, other=other)
        self.assertIs(type(answer), int)
        self.assertEqual(answer, expected)

    def test_all_pairs_of_short_roads(self):
        for one in all_roads(4):
            for other in all_roads(4):
                self.check(one, other)

    def test_one_road_that_begins_the_other_one(self):
        random = seeded(3)
        for length in (0, 1, 5, 59):
            road = random_road(random, length)
            for rest in ("L", "R", random_road(random, 60 - length)):
                self.check(road, road + rest)
                self.check(road + rest, road)
                self.check(road, road)

    def test_long_roads_that_part_at_any_place(self):
        random = seeded(4)
        for at in range(60):
            road = random_road(random, 60)
            other = road[:at] + ("L" if road[at] == "R" else "R") + random_road(random, 59 - at)
            self.check(road, other)
            self.check(other, road)


if __name__ == "__main__":
    unittest.main()
