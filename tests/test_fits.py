"""Promises 4, 7 and 9: which map a machine is, whether it keeps the order, and whether it writes a road twice."""

import unittest
from fractions import Fraction
from itertools import product

from leftroads.compare import agree, alike, falls, first_unlike, map_of, same_written
from leftroads.machines import cut_in, joined, least
from leftroads.maps import behind, machine_of
from leftroads.waits import ahead, wait
from tests.made import full, late, lower, some_machines, told_otherwise, with_ends, with_one_change
from tests.plain import (
    all_maps, all_roads, asked, is_map, measure, moved, random_map_of_size, random_road, road_to, seeded, told)

DOUBLE, HALF, SWAP = machine_of((2, 0, 0, 1)), machine_of((1, 0, 0, 2)), machine_of((0, 1, 1, 0))
PLAIN = ("", [(("L", 0), ("R", 0), "")])
HELD = ("", [(("", 1), ("", 2), ""), (("L", 1), ("RL", 3), "L"), (("L", 2), ("RR", 3), "R"), (("L", 3), ("R", 3), "")])
SIZES = [number for number in range(-12, 13) if number != 0]
SHORT = all_roads(6)


def small_maps():
    return [one for one in all_maps(2) if abs(measure(one)) <= 12] + [
        one for one in all_maps(4) if abs(measure(one)) == 5]


class MapOf(unittest.TestCase):

    def fits_no_map(self, machine):
        """Whether no map does with the roads of at most six turns what a machine does.

        The map through three numbers is found as the one that keeps the cross ratio of a fourth one.
        """
        sent = {road: Fraction(*told(full(machine, road))) for road in SHORT}
        low, middle, high = sent["L"], sent[""], sent["R"]
        if len({low, middle, high}) < 3:
            return True
        for road, found in sent.items():
            x = Fraction(*told(road))
            if road not in ("", "L", "R"):
                asked_for = (x - 1) * (Fraction(1, 2) - 2) * (found - high) * (low - middle)
                if asked_for != (found - middle) * (low - high) * (x - 2) * (Fraction(1, 2) - 1):
                    return True
        return False

    def test_machines_of_maps(self):
        for one in small_maps():
            self.assertEqual(asked(map_of, machine=machine_of(one)), one)
        random = seeded(401)
        for size in SIZES:
            for _ in range(3):
                one = random_map_of_size(random, 60, size)
                self.assertEqual(map_of(machine_of(one)), one)

    def test_machines_of_maps_told_otherwise(self):
        random = seeded(402)
        for size in SIZES:
            one = random_map_of_size(random, 20, size)
            for machine in told_otherwise(random, machine_of(one)):
                self.assertEqual(map_of(machine), one)

    def test_machines_of_maps_with_one_change(self):
        random = seeded(403)
        for one in small_maps():
            machine = machine_of(one)
            for other in [with_one_change(random, machine), with_ends(random, machine, 2)]:
                answer = map_of(other)
                self.assertIn(answer, (None, one) if len(machine[1]) > 1 else (answer,))
                self.assertIs(answer == one, first_unlike(machine, other) is None)

    def test_any_machines(self):
        random = seeded(404)
        seen = 0
        for machine in some_machines(random, 300) + some_machines(random, 300, states=1, most=1):
            answer = asked(map_of, machine=machine)
            self.assertIs(answer is None, self.fits_no_map(machine))
            if answer is not None:
                seen += 1
                self.assertTrue(is_map(answer))
                self.assertTrue(alike(machine, machine_of(answer)))
        self.assertGreater(seen, 5)

    def test_machines_that_do_no_map(self):
        nothing = ("", [(("", 0), ("", 0), "")])
        for machine in [nothing, HELD, cut_in(DOUBLE, "RRRRRRR", SWAP), cut_in(PLAIN, "L", HALF),
                        ("", [(("R", 0), ("L", 0), "R")]), ("", [(("L", 0), ("R", 0), "L")]),
                        ("LLLL", [(("RRRR", 0), ("L", 0), "RR")])]:
            self.assertIsNone(map_of(machine))
            self.assertTrue(self.fits_no_map(machine) or machine[1] == cut_in(DOUBLE, "RRRRRRR", SWAP)[1])

    def test_machines_that_are_a_map_only_for_short_roads(self):
        random = seeded(405)
        for one in [(1, 0, 0, 1), (2, 1, 0, 3), (0, 5, 1, 0), (3, 1, 1, 2)]:
            machine = machine_of(one)
            for length in (2, 7, 20, 60):
                road = random_road(random, length)
                self.assertIsNone(map_of(cut_in(machine, road, HELD)))
                self.assertEqual(map_of(cut_in(machine, road, machine)), one)

    def test_joined_machines_of_maps(self):
        maps = [(2, 0, 0, 1), (0, 3, 1, 0), (1, 1, 1, 2), (3, 1, 1, 1), (5, 0, 0, 2), (12, 1, 0, 1)]
        for one, other in product(maps, repeat=2):
            if abs(measure(one) * measure(other)) <= 60:
                self.assertEqual(map_of(joined(machine_of(one), machine_of(other))), behind(one, other))

    def test_numbers_that_fit_no_map_with_integers_from_zero_on(self):
        # x - 1 / 4 and 2 * x - 1 / 2 would fit 1 / 2, 1 and 2, but not all numbers above 0.
        for fit in (lambda x: x - Fraction(1, 4), lambda x: 2 * x - Fraction(1, 2), lambda x: 5 / (11 - 4 * x)):
            roads = {road: road_to((fit(x).numerator, fit(x).denominator)) for road, x in [
                ("", Fraction(1)), ("L", Fraction(1, 2)), ("R", Fraction(2))]}
            machine = ("", [(("", 1), ("", 2), roads[""]), ((roads["L"], 1), ("R", 1), roads["L"]),
                            (("L", 2), (roads["R"], 2), roads["R"])])
            self.assertIsNone(map_of(machine))


class Falls(unittest.TestCase):

    def check(self, machine, roads=SHORT):
        answer = asked(falls, machine=machine)
        if answer is None:
            ordered = sorted(roads, key=lambda road: Fraction(*told(road)))
            sent = [Fraction(*told(full(machine, road))) for road in ordered]
            self.assertTrue(all(one < other for one, other in zip(sent, sent[1:])), machine)
        else:
            self.assertIs(type(answer), tuple)
            one, other = answer
            self.assertTrue(lower(one, other))
            self.assertFalse(lower(full(machine, one), full(machine, other)))
        return answer

    def test_machines_of_maps(self):
        random = seeded(411)
        for one in small_maps() + [random_map_of_size(random, 60, size) for size in SIZES for _ in range(2)]:
            # A map keeps the order of numbers if its size is above 0, otherwise it turns it.
            self.assertIs(self.check(machine_of(one)) is None, measure(one) > 0)

    def test_any_machines(self):
        random = seeded(412)
        seen = set()
        for machine in some_machines(random, 200) + some_machines(random, 500, states=2, most=2):
            seen.add(self.check(machine) is None)
        self.assertEqual(seen, {True, False})

    def test_machines_of_one_state_with_short_words(self):
        kept = 0
        for left, right, end in product(all_roads(2), repeat=3):
            machine = ("", [((left, 0), (right, 0), end)])
            kept += self.check(machine, all_roads(7)) is None
        self.assertGreater(kept, 3)

    def test_machines_told_otherwise(self):
        random = seeded(413)
        for machine in some_machines(random, 40, states=3, most=2) + [DOUBLE, HALF, SWAP, PLAIN]:
            answer = self.check(machine)
            for other in told_otherwise(random, machine):
                self.assertIs(self.check(other) is None, answer is None)

    def test_what_is_the_same_is_no_less(self):
        # Nothing turns the order here, but two roads are sent to one.
        same = cut_in(PLAIN, "R", ("R", [(("", 0), ("", 0), "")]))
        self.assertIsNotNone(self.check(same))
        self.assertIsNotNone(self.check(("", [(("L", 0), ("", 1), ""), (("", 1), ("R", 1), "")])))
        self.assertIsNotNone(self.check(("", [(("", 0), ("", 0), "")])))
        self.assertIsNotNone(self.check(("", [(("", 0), ("", 0), "LLR")])))

    def test_falls_behind_many_turns_alone(self):
        random = seeded(414)
        for length in (1, 2, 6, 20, 60):
            road = random_road(random, length)
            for machine in (PLAIN, DOUBLE, machine_of((3, 1, 0, 2))):
                self.assertIsNone(self.check(cut_in(machine, road, machine)))
                answer = self.check(cut_in(machine, road, SWAP))
                self.assertIsNotNone(answer)

    def test_an_end_alone_that_is_out_of_order(self):
        for end in ("L", "LR", "LLL", "R", "RL", "RRRR", "RLLLLLL", "RLLRRRR", "RLLRLR"):
            other = ("", [(("", 0), ("", 0), end)])
            machine = cut_in(PLAIN, "RLL", other)
            machine = cut_in(cut_in(machine, "RLLL", PLAIN), "RLLR", PLAIN)
            self.assertIsNotNone(self.check(machine))

    def test_machines_that_keep_the_order_and_are_no_maps(self):
        parts = cut_in(DOUBLE, "L", HALF)
        self.assertIsNone(self.check(parts))
        self.assertIsNone(map_of(parts))
        self.assertIsNone(self.check(cut_in(parts, "RR", machine_of((4, 0, 0, 1)))))
        self.assertIsNotNone(self.check(cut_in(HALF, "L", DOUBLE)))

    def test_joined_machines(self):
        random = seeded(415)
        for one, other in product([DOUBLE, SWAP, machine_of((3, 1, 1, 1))] + some_machines(random, 4), repeat=2):
            answer = self.check(joined(one, other))
            if falls(one) is None and falls(other) is None:
                self.assertIsNone(answer)


class SameWritten(unittest.TestCase):

    def check(self, machine, roads=SHORT):
        answer = asked(same_written, machine=machine)
        if answer is None:
            self.assertEqual(len({full(machine, road) for road in roads}), len(roads), machine)
        else:
            self.assertIs(type(answer), tuple)
            one, other = answer
            self.assertNotEqual(one, other)
            self.assertEqual(full(machine, one), full(machine, other))
        return answer

    def test_machines_of_maps_write_nothing_twice(self):
        random = seeded(421)
        for one in small_maps() + [random_map_of_size(random, 60, size) for size in SIZES for _ in range(2)]:
            self.assertIsNone(self.check(machine_of(one)))

    def test_any_machines(self):
        random = seeded(422)
        seen = set()
        for machine in some_machines(random, 200) + some_machines(random, 300, states=2, most=3):
            seen.add(self.check(machine) is None)
        self.assertEqual(seen, {True, False})

    def test_machines_of_one_state_with_short_words(self):
        once = 0
        for left, right, end in product(all_roads(3), all_roads(3), all_roads(1)):
            once += self.check(("", [((left, 0), (right, 0), end)]), all_roads(7)) is None
        self.assertGreater(once, 50)

    def test_machines_that_write_each_turn_as_one(self):
        random = seeded(423)
        for _ in range(60):
            states = random.randint(1, 8)
            rows = []
            for _ in range(states):
                words = random.choice((("L", "R"), ("R", "L")))
                rows.append(((words[0], random.randrange(states)), (words[1], random.randrange(states)), ""))
            self.assertIsNone(self.check(("R", rows)))

    def test_words_that_tell_turns_apart_only_later(self):
        # Behind L and LR, or L and RL, all that follows may begin alike for long.
        for left, right in [("L", "LR"), ("R", "LLR"), ("LR", "LRR"), ("L", "LRRR"), ("LRLR", "RL")]:
            self.assertIsNone(self.check(("", [((left, 0), (right, 0), "")])))
            self.assertIsNone(self.check(late(("", [((left, 0), (right, 0), "")]))))
        for left, right in [("L", "LL"), ("LR", "LRLR"), ("RLR", "RLRRLR")]:
            self.assertIsNotNone(self.check(("", [((left, 0), (right, 0), "")])))

    def test_an_end_that_is_written_elsewhere(self):
        self.assertIsNone(self.check(("", [(("L", 0), ("R", 0), "RL")])))
        ended = ("", [(("L", 0), ("R", 1), ""), (("L", 0), ("R", 1), "L")])
        self.assertIsNotNone(self.check(ended))

    def test_the_same_behind_many_turns_alone(self):
        random = seeded(424)
        for length in (1, 5, 20, 60):
            road = random_road(random, length)
            lost = cut_in(PLAIN, road, ("", [(("L", 0), ("", 0), "")]))
            self.assertIsNotNone(self.check(lost))
            self.assertIsNone(self.check(cut_in(DOUBLE, road, DOUBLE)))

    def test_the_same_only_for_long_roads(self):
        # Each turn is told by the end alone, but for a road of seven turns more.
        rows = [(("L", state + 1), ("R", state + 1), "") for state in range(7)] + [(("L", 7), ("L", 7), "")]
        answer = self.check(("", rows))
        self.assertEqual([len(road) for road in answer], [8, 8])

    def test_silent_turns(self):
        self.assertIsNotNone(self.check(("", [(("", 0), ("R", 0), "")])))
        self.assertIsNotNone(self.check(("", [(("", 1), ("R", 0), ""), (("", 0), ("L", 0), "R")])))
        self.assertIsNone(self.check(HELD))
        turned = ("", [(("", 1), ("", 2), ""), (("L", 1), ("R", 1), "L"), (("L", 2), ("R", 2), "R")])
        self.assertIsNone(self.check(turned))
        self.assertIsNone(self.check(joined(turned, turned)))

    def test_machines_told_otherwise(self):
        random = seeded(425)
        for machine in some_machines(random, 40, states=3) + [DOUBLE, HALF, SWAP, PLAIN, HELD]:
            answer = self.check(machine)
            for other in told_otherwise(random, machine) + [least(machine)]:
                self.assertIs(self.check(other) is None, answer is None)

    def test_joined_machines(self):
        random = seeded(426)
        for one, other in product([DOUBLE, SWAP, HELD] + some_machines(random, 5, states=3), repeat=2):
            answer = self.check(joined(one, other))
            if same_written(one) is not None:
                self.assertIsNotNone(answer)
            elif same_written(other) is None:
                self.assertIsNone(answer)

    def test_numbers_that_are_sent_to_one_are_told_by_one_road(self):
        for one in small_maps()[:40]:
            machine = machine_of(one)
            sent = {moved(one, told(road)) for road in SHORT}
            self.assertEqual(len(sent), len(SHORT))
            self.assertIsNone(same_written(machine))

    def test_first_turns_that_are_written_last(self):
        # It writes the road without its first two turns, and these at the end; joined with itself it does so with four.
        turned = ("", [(("", 1), ("", 2), ""), (("", 3), ("", 4), "L"), (("", 5), ("", 6), "R")] + [
            (("L", 3 + at), ("R", 3 + at), end) for at, end in enumerate(("LL", "LR", "RL", "RR"))])
        self.assertIsNone(self.check(turned))
        twice = joined(turned, turned)
        self.assertEqual(len(twice[1]), 31)
        self.assertIsNone(self.check(twice, all_roads(9)))
        self.assertIsNotNone(self.check(cut_in(twice, "LRLLR", turned), all_roads(9)))


class Great(unittest.TestCase):

    def test_a_machine_of_some_hundred_states(self):
        one, other = (7, 3, 1, 1), (12, 0, 0, 1)
        great = joined(machine_of(one), machine_of(other))
        self.assertEqual(len(great[1]), 532)
        self.assertEqual(map_of(great), behind(one, other))
        self.assertIsNone(falls(great))
        self.assertIsNone(same_written(great))
        self.assertEqual(wait(great), 4 * 12 - 1)
        self.assertEqual(ahead(great), (None, None))
        self.assertTrue(agree(great, great))
        cut = cut_in(great, "LRRLLRRLLRRL", SWAP)
        self.assertIsNone(map_of(cut))
        self.assertFalse(agree(great, cut))
        self.assertEqual(first_unlike(great, cut), "LRRLLRRLLRRL")
        for pair in (falls(cut), falls(joined(great, SWAP))):
            self.assertTrue(lower(*pair))
        one, other = falls(cut)
        self.assertFalse(lower(full(cut, one), full(cut, other)))


if __name__ == "__main__":
    unittest.main()
