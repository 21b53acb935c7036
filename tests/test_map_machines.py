"""Promises 7, 8 and 9: the machines of maps and their standings, held against a plain search."""

import unittest
from itertools import product

from leftroads.maps import machine_of, standings, turned
from tests.plain import (
    all_maps, all_roads, asked, common_beginning, is_map, led, measure, random_map_of_size, random_road, road_moved,
    seeded, written)

SIZES = [number for number in range(-12, 13) if number != 0]
SHORT = all_roads(5)


def some_maps(number, many):
    """Maps of all sizes with integers to 60."""
    random = seeded(number)
    return [random_map_of_size(random, 60, size) for size in SIZES for _ in range(many)]


def standing_maps(size):
    """All maps of a size between whose ends 1 lies, as promise 9 tells them."""
    found = []
    # An integer of such a map is never above its size.
    for one in product(range(abs(size) + 1), repeat=4):
        if measure(one) == size and is_map(one):
            a, b, c, d = one
            if (a > c and b < d) if size > 0 else (a < c and b > d):
                found.append(one)
    return found


class Machines(unittest.TestCase):

    def check_kinds(self, machine):
        self.assertIsInstance(machine, tuple)
        first, rows = machine
        self.assertIsInstance(first, str)
        self.assertIs(type(rows), list)
        self.assertGreater(len(rows), 0)
        for row in rows:
            self.assertIs(type(row), tuple)
            left, right, end = row
            self.assertIsInstance(end, str)
            for step in (left, right):
                self.assertIs(type(step), tuple)
                word, state = step
                self.assertIsInstance(word, str)
                self.assertIs(type(state), int)
                self.assertIn(state, range(len(rows)))

    def test_kinds_of_what_is_returned(self):
        for one in all_maps(2) + some_maps(41, 1):
            self.check_kinds(asked(machine_of, one=one))

    def check_writes(self, one, roads):
        machine = machine_of(one)
        for road in roads:
            self.assertEqual(machine[0] + written(machine, road), road_moved(one, road))

    def test_it_writes_the_road_of_what_the_map_sends(self):
        for one in all_maps(3):
            if abs(measure(one)) <= 12:
                self.check_writes(one, SHORT)
        for one in some_maps(42, 4):
            self.check_writes(one, SHORT)

    def test_it_writes_so_for_long_roads(self):
        random = seeded(43)
        roads = [random_road(random, random.randint(6, 60)) for _ in range(20)]
        roads += ["L" * 60, "R" * 60, "LR" * 30, "R" * 30 + "L" * 30]
        for one in some_maps(44, 2):
            self.check_writes(one, roads)

    def test_it_has_written_as_much_as_is_sure(self):
        # So many turns of one kind lead behind 1 from each standing, to either side.
        rests = all_roads(2) + [turn * many for turn in "LR" for many in (13, 14, 40)]
        for one in some_maps(45, 2) + [each for each in all_maps(2) if abs(measure(each)) <= 12]:
            machine = machine_of(one)
            for road in all_roads(4):
                sure = common_beginning([road_moved(one, road + rest) for rest in rests])
                self.assertEqual(machine[0] + led(machine, road)[0], sure)

    def test_states_are_numbered_in_the_order_in_which_they_are_come_to(self):
        for one in some_maps(46, 3) + all_maps(2):
            machine = machine_of(one)
            found = [0]
            for state in found:
                for _, follower in machine[1][state][:2]:
                    if follower not in found:
                        found.append(follower)
            self.assertEqual(found, list(range(len(machine[1]))))

    def test_states_are_unlike(self):
        for one in some_maps(47, 2):
            machine = machine_of(one)
            told_apart = {
                tuple(written(machine, road, state) for road in ("", "L", "R"))
                for state in range(len(machine[1]))}
            self.assertEqual(len(told_apart), len(machine[1]))

    def test_a_turned_map_takes_back(self):
        seen = 0
        for one in all_maps(4):
            back = turned(one)
            if back is not None and abs(measure(one)) <= 12:
                seen += 1
                machine, other = machine_of(one), machine_of(back)
                for road in SHORT:
                    word = machine[0] + written(machine, road)
                    self.assertEqual(other[0] + written(other, word), road)
        self.assertGreater(seen, 10)

    def test_some_machines(self):
        self.assertEqual(machine_of((1, 0, 0, 1)), ("", [(("L", 0), ("R", 0), "")]))
        self.assertEqual(machine_of((0, 1, 1, 0)), ("", [(("R", 0), ("L", 0), "")]))
        self.assertEqual(machine_of((1, 0, 1, 1)), ("L", [(("L", 0), ("R", 0), "")]))
        self.assertEqual(machine_of((1, 60, 0, 1)), ("R" * 60, [(("L", 0), ("R", 0), "")]))
        self.assertEqual(machine_of((60, 1, 59, 1)), ("R" + "L" * 59, [(("L", 0), ("R", 0), "")]))


class Waits(unittest.TestCase):

    def silent(self, machine, state, most):
        """The greatest number of turns in a row that are read from a state on without writing."""
        if most == 0:
            return 0
        steps = [1 + self.silent(machine, follower, most - 1)
                 for word, follower in machine[1][state][:2] if word == ""]
        return max(steps, default=0)

    def test_it_waits_at_most_the_size_less_one_and_does_so(self):
        for one in some_maps(48, 2):
            machine, most = machine_of(one), abs(measure(one)) - 1
            waits = [self.silent(machine, state, most + 2) for state in range(len(machine[1]))]
            self.assertEqual(max(waits), most)

    def test_it_writes_at_most_the_size_at_a_turn_and_less_at_an_end(self):
        for one in some_maps(49, 2):
            rows, most = machine_of(one)[1], abs(measure(one))
            self.assertEqual(max(len(word) for row in rows for word, _ in row[:2]), most)
            self.assertLess(max(len(row[2]) for row in rows), most)

    def test_its_rates_lie_between_the_size_and_its_part(self):
        for one in some_maps(50, 1):
            most = abs(measure(one))
            steps = [
                (state, follower, len(word))
                for state, row in enumerate(machine_of(one)[1]) for word, follower in row[:2]]
            self.assertEqual(least_round([(at, to, most * many - 1) for at, to, many in steps]), "zero")
            self.assertEqual(least_round([(at, to, most - many) for at, to, many in steps]), "zero")


def least_round(steps):
    """Whether some way round weighs less than nothing, some just nothing, or none so little."""
    states = {at for at, _, _ in steps}
    weights = dict.fromkeys(states, 0)
    for _ in states:
        for at, to, weight in steps:
            weights[to] = min(weights[to], weights[at] + weight)
    if any(weights[at] + weight < weights[to] for at, to, weight in steps):
        return "below"
    # Ways round of no weight go along steps that are tight everywhere.
    tight = {at: [to for start, to, weight in steps if start == at and weights[at] + weight == weights[to]]
             for at in states}
    while any(not followers for followers in tight.values()):
        tight = {at: [to for to in followers if to in tight] for at, followers in tight.items() if followers}
    return "zero" if tight else "above"


class Standings(unittest.TestCase):

    def test_they_are_just_those_of_the_size(self):
        for size in SIZES:
            expected = sorted(standing_maps(size))
            for one in some_maps_of(size, 4):
                answer = asked(standings, one=one)
                self.assertIs(type(answer), list)
                self.assertEqual(sorted(answer), expected)

    def test_they_are_as_many_as_the_states_and_in_their_order(self):
        for one in some_maps(51, 2) + [each for each in all_maps(2) if abs(measure(each)) <= 12]:
            machine, found = machine_of(one), standings(one)
            self.assertEqual(len(found), len(machine[1]))
            for state, standing in enumerate(found):
                for road in all_roads(3):
                    self.assertEqual(written(machine, road, state), road_moved(standing, road))

    def test_the_first_one_stands_when_the_first_road_is_written(self):
        for one in some_maps(52, 2):
            first, standing = machine_of(one)[0], standings(one)[0]
            for road in all_roads(3):
                self.assertEqual(road_moved(one, road), first + road_moved(standing, road))

    def test_a_map_that_stands_is_its_own_first_one(self):
        for size in SIZES:
            for one in standing_maps(size):
                self.assertEqual(standings(one)[0], one)
                self.assertEqual(machine_of(one)[0], "")
                self.assertEqual(machine_of(one)[1][0][2], road_moved(one, ""))


def some_maps_of(size, many):
    random = seeded(1000 + size)
    return [random_map_of_size(random, 60, size) for _ in range(many)]


if __name__ == "__main__":
    unittest.main()
