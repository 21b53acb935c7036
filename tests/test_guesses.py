"""Promises 4, 6 and 9: which maps fit what was seen, and which fraction tells maps apart."""

import unittest
from itertools import permutations, product

from leftroads.errors import InvalidNumber
from leftroads.guesses import fitting, parting, told_back
from leftroads.maps import size
from tests.plain import (
    all_maps, all_roads, asked, is_map, measure, moved, random_fraction, random_map, random_map_of_size, road_to,
    seeded, told)


def seen_by(one, fractions):
    return [(fraction, moved(one, fraction)) for fraction in fractions]


def unlike_fractions(random, many, greatest):
    found = []
    while len(found) < many:
        fraction = random_fraction(random, greatest)
        if fraction not in found:
            found.append(fraction)
    return found


class Fitting(unittest.TestCase):

    def check(self, seen, most):
        expected = [one for one in all_maps(most) if all(moved(one, ahead) == behind for ahead, behind in seen)]
        answer = asked(fitting, seen=seen, most=most)
        self.assertEqual(answer, sorted(expected))
        return answer

    def test_drawn_pairs(self):
        random = seeded(971)
        numbers = set()
        for most in range(5):
            for many in range(4):
                for _ in range(5):
                    seen = [(random_fraction(random, 3), random_fraction(random, 3)) for _ in range(many)]
                    numbers.add(len(self.check(seen, most)))
        self.assertLessEqual({0, 1, 2}, numbers)

    def test_pairs_of_a_map(self):
        random = seeded(972)
        for _ in range(25):
            one = random_map(random, 4)
            for many in (1, 2, 3, 6):
                seen = seen_by(one, [random_fraction(random, 9) for _ in range(many)])
                self.assertIn(one, self.check(seen, 4))
                self.assertEqual(one in self.check(seen, max(one) - 1), False)
                self.assertIn(one, self.check(seen, max(one)))

    def test_the_empty_list_is_fit_by_all_maps(self):
        for most in range(5):
            self.assertEqual(self.check([], most), sorted(all_maps(most)))
        self.assertEqual(fitting([], 1), [(0, 1, 1, 0), (0, 1, 1, 1), (1, 0, 0, 1), (1, 0, 1, 1), (1, 1, 0, 1),
                                          (1, 1, 1, 0)])

    def test_no_map_has_integers_to_nothing(self):
        self.assertEqual(self.check([], 0), [])
        self.assertEqual(self.check([((1, 1), (1, 1))], 0), [])

    def test_pairs_that_no_map_fits(self):
        one = ((1, 1), (2, 1))
        for seen in [[one, ((1, 1), (1, 1))], [one, ((1, 2), (2, 1))], [one, ((2, 1), (3, 1)), ((3, 1), (3, 1))],
                     [((1, 1), (100, 1))], [((1, 1), (10 ** 9, 10 ** 9 - 1))]]:
            self.assertEqual(self.check(seen, 4), [])

    def test_a_pair_twice(self):
        seen = [((1, 1), (2, 1)), ((1, 1), (2, 1))]
        self.assertEqual(self.check(seen, 3), fitting(seen[:1], 3))

    def test_no_map_has_a_common_divisor_or_no_size(self):
        for one in asked(fitting, seen=[((2, 3), (1, 1))], most=4):
            self.assertTrue(is_map(one))

    def test_great_fractions(self):
        for one in [(4, 3, 1, 1), (0, 1, 1, 0), (1, 4, 0, 3)]:
            seen = seen_by(one, [(10 ** 9, 618033987), (618033989, 10 ** 9), (1, 10 ** 9)])
            self.assertEqual(self.check(seen, 4), [one])


class ToldBack(unittest.TestCase):

    def check(self, seen):
        answer = asked(told_back, seen=seen)
        if answer is not None:
            self.assertTrue(is_map(answer))
            for ahead, behind in seen:
                self.assertEqual(moved(answer, ahead), behind)
        return answer

    def test_three_unlike_fractions_in_any_order(self):
        random = seeded(981)
        for _ in range(40):
            one = random_map(random, 60)
            for seen in permutations(seen_by(one, unlike_fractions(random, 3, 30))):
                self.assertEqual(self.check(list(seen)), one)

    def test_all_small_maps(self):
        for one in all_maps(3):
            for fractions in ([(1, 2), (1, 1), (2, 1)], [(3, 1), (1, 5), (2, 3)]):
                self.assertEqual(self.check(seen_by(one, fractions)), one)

    def test_more_pairs_than_three(self):
        random = seeded(982)
        for _ in range(60):
            one = random_map_of_size(random, 60, random.choice([-12, -5, -1, 1, 2, 7, 12]))
            seen = seen_by(one, unlike_fractions(random, random.randint(4, 6), 50))
            self.assertEqual(self.check(seen), one)
            at = random.randrange(len(seen))
            ahead, (above, below) = seen[at]
            for wrong in ((below, above), (above + below, below), (above, above + below)):
                other = seen[:at] + [(ahead, wrong)] + seen[at + 1:]
                if wrong != (above, below):
                    # At least three pairs still fit the map alone.
                    self.assertIsNone(self.check(other))

    def test_a_pair_twice(self):
        one = (2, 3, 1, 4)
        seen = seen_by(one, [(1, 2), (5, 3), (4, 1)])
        for again in seen:
            for at in range(4):
                self.assertEqual(self.check(seen[:at] + [again] + seen[at:]), one)
        self.assertEqual(self.check(seen + seen), one)

    def test_one_fraction_sent_to_two(self):
        seen = seen_by((2, 0, 0, 1), [(1, 2), (1, 1), (3, 1)])
        for ahead, _ in seen:
            for at in range(4):
                self.assertIsNone(self.check(seen[:at] + [(ahead, (7, 5))] + seen[at:]))

    def test_fewer_than_three_unlike_ones(self):
        one, other = ((1, 1), (2, 1)), ((1, 2), (1, 1))
        for seen, many in [([], 0), ([one], 1), ([one, one], 1), ([one, other], 2), ([one, other] * 3, 2),
                           ([one, ((1, 1), (3, 1)), other], 2), ([one, ((1, 1), (3, 1)), ((1, 1), (4, 1))], 1)]:
            for places, names in (((seen,), {}), ((), {"seen": seen})):
                with self.assertRaises(InvalidNumber) as caught:
                    told_back(*places, **names)
                self.assertEqual(caught.exception.value, many)

    def test_two_or_three_sent_to_one(self):
        ones = [(1, 1), (1, 2), (3, 1)]
        for behind in product([(2, 1), (1, 3)], repeat=3):
            self.assertIsNone(self.check(list(zip(ones, behind))))

    def test_integers_that_make_a_map_only_with_another_sign(self):
        # Whatever the order, all integers are taken with the sign that makes a map of them.
        for one in [(2, 0, 0, 1), (0, 2, 1, 0), (1, 1, 0, 1), (5, 1, 2, 7), (0, 1, 1, 3)]:
            for fractions in permutations([(1, 3), (1, 1), (2, 1), (7, 2)], 3):
                self.assertEqual(self.check(seen_by(one, fractions)), one)

    def test_integers_that_make_no_map(self):
        # x - 1, 1 / (x - 1), (x - 1) / (x + 1), 2 * x - 3, 3 - x, (5 - x) / x, (3 * x - 5) / (2 * x - 3)
        for a, b, c, d, fractions in [
                (1, -1, 0, 1, [(2, 1), (3, 1), (7, 2)]), (0, 1, 1, -1, [(2, 1), (3, 1), (7, 2)]),
                (1, -1, 1, 1, [(2, 1), (3, 1), (7, 2), (5, 1)]), (2, -3, 0, 1, [(2, 1), (3, 1), (7, 2)]),
                (-1, 3, 0, 1, [(2, 1), (1, 1), (1, 2)]), (-1, 5, 1, 0, [(2, 1), (1, 1), (1, 2), (9, 2)]),
                (3, -5, 2, -3, [(2, 1), (1, 1), (5, 1), (1, 2)])]:
            for some in permutations(fractions, 3):
                self.assertIsNone(self.check(seen_by((a, b, c, d), some)))

    def test_great_integers(self):
        random = seeded(983)
        for one in [(300007, 200003, 100003, 400009), (999983, 1, 2, 999979), (0, 777777, 555551, 3),
                    (1, 0, 0, 654321)]:
            self.assertTrue(is_map(one))
            seen = seen_by(one, unlike_fractions(random, 6, 60))
            self.assertEqual(self.check(seen[:3]), one)
            self.assertEqual(self.check(seen), one)
            self.assertIsNone(self.check(seen[:5] + [(seen[5][0], (1, 10 ** 9))]))

    def test_great_fractions(self):
        seen = [((10 ** 9, 10 ** 9 - 1), (10 ** 9 - 1, 10 ** 9)), ((10 ** 9 - 1, 10 ** 9), (10 ** 9, 10 ** 9 - 1)),
                ((1, 10 ** 9), (10 ** 9, 1))]
        self.assertEqual(self.check(seen), (0, 1, 1, 0))
        seen = [((10 ** 9, 1), (1, 10 ** 9)), ((1, 1), (1, 1)), ((1, 10 ** 9), (2, 1))]
        answer = self.check(seen)
        if answer is not None:
            self.assertLess(size(answer), 0)

    def test_held_against_all_maps_with_small_integers(self):
        random = seeded(984)
        seen_none = 0
        for _ in range(150):
            ahead = unlike_fractions(random, 3, 3)
            seen = [(each, random_fraction(random, 3)) for each in ahead]
            answer = self.check(seen)
            fit = [one for one in all_maps(3) if all(moved(one, each) == behind for each, behind in seen)]
            if answer is None:
                seen_none += 1
                self.assertEqual(fit, [])
            else:
                self.assertEqual(fit, [answer] if max(answer) <= 3 else [])
        self.assertTrue(0 < seen_none < 150)


class Parting(unittest.TestCase):

    def check(self, maps):
        expected = next(
            told(road) for road in all_roads(6) if len({moved(one, told(road)) for one in maps}) == len(maps))
        answer = asked(parting, maps=maps)
        self.assertEqual(answer, expected)
        return answer

    def test_one_and_none(self):
        self.assertEqual(self.check([]), (1, 1))
        for one in all_maps(2):
            self.assertEqual(self.check([one]), (1, 1))

    def test_all_pairs_of_small_maps(self):
        lengths = set()
        for one, other in permutations(all_maps(2), 2):
            lengths.add(road_to(self.check([one, other])))
        self.assertEqual({"", "L"}, lengths)

    def test_two_that_agree_at_the_first_fractions(self):
        # Two maps agree at two fractions at most: here at 1 and 1 / 2, so that 2 parts them.
        pairs = [(one, other) for one, other in permutations(all_maps(3), 2)
                 if moved(one, (1, 1)) == moved(other, (1, 1)) and moved(one, (1, 2)) == moved(other, (1, 2))]
        self.assertGreater(len(pairs), 10)
        for one, other in pairs:
            self.assertEqual(self.check([one, other]), (2, 1))

    def test_six_maps_of_which_several_agree_at_the_first_fractions(self):
        random = seeded(991)
        lengths = set()
        small = [one for one in all_maps(4) if abs(measure(one)) <= 12]
        for fraction in [(1, 1), (1, 2), (2, 1), (1, 3), (2, 3)]:
            for behind in [(1, 1), (2, 1), (1, 2), (3, 1)]:
                agreeing = [one for one in small if moved(one, fraction) == behind]
                for _ in range(6):
                    maps = random.sample(agreeing, min(4, len(agreeing)))
                    maps += random.sample([one for one in small if one not in maps], 6 - len(maps))
                    answer = self.check(maps)
                    lengths.add(len(road_to(answer)))
                    random.shuffle(maps)
                    self.assertEqual(self.check(maps), answer)
        self.assertLessEqual({1, 2}, lengths)

    def test_maps_that_need_a_long_road(self):
        # Added one by one, each map agrees with one of those before at the fraction that parts them till then.
        random = seeded(992)
        small = [one for one in all_maps(5) if abs(measure(one)) <= 12]
        greatest = 0
        for _ in range(12):
            maps = [random.choice(small)]
            while len(maps) < 6:
                fraction = self.check(maps)
                behind = {moved(one, fraction) for one in maps}
                more = [one for one in small if one not in maps and moved(one, fraction) in behind]
                maps.append(random.choice(more or small))
                if len(set(maps)) < len(maps):
                    maps.pop()
            greatest = max(greatest, len(road_to(self.check(maps))))
        self.assertGreaterEqual(greatest, 2)

    def test_drawn_maps(self):
        random = seeded(993)
        for _ in range(60):
            maps = []
            while len(maps) < 6:
                one = random_map_of_size(random, 60, random.choice([-12, -7, -2, -1, 1, 3, 6, 12]))
                if one not in maps:
                    maps.append(one)
            for many in range(7):
                self.check(maps[:many])


if __name__ == "__main__":
    unittest.main()
