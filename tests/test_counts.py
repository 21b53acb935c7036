"""Promises 4 and 7: how many roads of a length are sent where."""

import unittest

from leftroads.machines import joined, run
from leftroads.maps import machine_of
from leftroads.waits import number_below, number_of_roads, rest_of_roads, surely
from tests.made import full, lower, random_word, some_machines, told_otherwise
from tests.plain import (
    all_maps, all_roads, asked, measure, moved, random_fraction, random_map_of_size, random_road, road_to, seeded, told)

DOUBLE, HALF, SWAP = machine_of((2, 0, 0, 1)), machine_of((1, 0, 0, 2)), machine_of((0, 1, 1, 0))
PLAIN = ("", [(("L", 0), ("R", 0), "")])
LOST = ("", [(("", 0), ("R", 0), "")])
HUGE = 10 ** 30


def roads_of(length):
    return [road for road in all_roads(length) if len(road) == length]


def by_steps(machine, length, word, modulus):
    """The number of roads, state by state: for each state how many rests of the word are open."""
    first, rows = machine
    waiting = {(0, first[:len(word)]): 1}
    for _ in range(length):
        later = {}
        for (state, begun), many in waiting.items():
            for written, follower in rows[state][:2]:
                key = (follower, (begun + written)[:len(word)])
                if word.startswith(key[1]):
                    later[key] = (later.get(key, 0) + many) % modulus
        waiting = later
    return sum(many for (state, begun), many in waiting.items()
               if (begun + rows[state][2]).startswith(word)) % modulus


def squared(matrix, other, modulus):
    columns = list(zip(*other))
    return [[sum(a * b for a, b in zip(row, column)) % modulus for column in columns] for row in matrix]


def by_powers(machine, length, word, modulus):
    """The rest of the number of roads, by the power of the matrix of all that can follow what is written."""
    first, rows = machine
    places = [(state, word[:many]) for state in range(len(rows)) for many in range(len(word) + 1)]
    at = {place: number for number, place in enumerate(places)}
    step = [[0] * len(places) for _ in places]
    for (state, begun), number in at.items():
        for written, follower in rows[state][:2]:
            after = (begun + written)[:len(word)]
            if (follower, after) in at:
                step[number][at[(follower, after)]] += 1
    power = [[int(row == column) for column in range(len(places))] for row in range(len(places))]
    for bit in bin(length)[2:]:
        power = squared(power, power, modulus)
        if bit == "1":
            power = squared(power, step, modulus)
    start = at.get((0, first[:len(word)]))
    if start is None:
        return 0
    return sum(many for many, (state, begun) in zip(power[start], places)
               if (begun + rows[state][2]).startswith(word)) % modulus


def plain_below(length, road):
    """How many roads of a length tell less than a road does, counted turn by turn of that road."""
    total = 0
    for at, turn in enumerate(road[:length]):
        if turn == "R":
            total += 2 ** (length - at - 1)
    # A road of this length with which that road goes on tells less exactly if it goes on with R.
    return total + (len(road) > length and road[length] == "R") + (
        2 ** (length - len(road) - 1) if len(road) < length else 0)


class NumberOfRoads(unittest.TestCase):

    def check(self, machine, length, word):
        answer = asked(number_of_roads, machine=machine, length=length, word=word)
        expected = sum(full(machine, road).startswith(word) for road in roads_of(length))
        self.assertIs(type(answer), int)
        self.assertEqual(answer, expected)
        for modulus in (1, 2, 7, 10 ** 9):
            self.assertEqual(
                asked(rest_of_roads, machine=machine, length=length, word=word, modulus=modulus), expected % modulus)

    def test_short_lengths(self):
        for machine in some_machines(seeded(601), 60):
            for length in range(5):
                for word in all_roads(3):
                    self.check(machine, length, word)

    def test_words_of_four_turns_and_more(self):
        random = seeded(602)
        for machine in some_machines(random, 40):
            for length in range(6):
                road = random_road(random, length)
                words = [full(machine, road), surely(machine, road), random_road(random, 4), random_road(random, 7)]
                for word in words:
                    self.check(machine, length, word)

    def test_words_that_end_in_an_end(self):
        self.check(("", [(("L", 0), ("L", 0), "R")]), 2, "LLR")
        self.check(("", [(("L", 0), ("L", 0), "R")]), 1, "LLR")
        self.check(("", [(("L", 0), ("L", 0), "R")]), 3, "LLLRR")
        self.check(("LR", [(("", 0), ("", 0), "")]), 4, "LR")
        self.check(("LR", [(("", 0), ("", 0), "")]), 4, "LRL")
        self.check(("LR", [(("", 0), ("", 0), "")]), 4, "RR")

    def test_lengths_to_forty(self):
        random = seeded(603)
        for machine in some_machines(random, 40):
            for length in (5, 17, 39, 40):
                for word in ("", "L", random_word(random, 4), surely(machine, random_road(random, 3))):
                    answer = asked(number_of_roads, machine=machine, length=length, word=word)
                    self.assertEqual(answer, by_steps(machine, length, word, 2 ** 50))
        self.assertEqual(number_of_roads(PLAIN, 40, "RLRL"), 2 ** 36)
        self.assertEqual(number_of_roads(PLAIN, 3, "RLRL"), 0)
        self.assertEqual(number_of_roads(DOUBLE, 40, ""), 2 ** 40)
        self.assertEqual(number_of_roads(LOST, 40, "R"), 2 ** 40 - 1)
        self.assertEqual(number_of_roads(LOST, 40, "RR"), 2 ** 40 - 41)

    def test_machines_of_maps(self):
        random = seeded(604)
        for size in range(-12, 13):
            if size != 0:
                machine = machine_of(random_map_of_size(random, 20, size))
                for length in (0, 3):
                    for word in ("", "R", surely(machine, "LR"), run(machine, "RLL")):
                        self.check(machine, length, word)
                word = surely(machine, "R")[:4]
                self.assertEqual(number_of_roads(machine, 40, word), by_steps(machine, 40, word, 2 ** 50))

    def test_machines_told_otherwise(self):
        random = seeded(605)
        for machine in some_machines(random, 30):
            for other in told_otherwise(random, machine):
                for word in ("L", "RL", surely(machine, "LLR")):
                    self.assertEqual(number_of_roads(other, 30, word), number_of_roads(machine, 30, word))
                    self.assertEqual(
                        rest_of_roads(other, HUGE, word, 10 ** 9), rest_of_roads(machine, HUGE, word, 10 ** 9))


class RestOfRoads(unittest.TestCase):

    def test_lengths_that_can_be_counted(self):
        random = seeded(611)
        for machine in some_machines(random, 60):
            for length in (0, 1, 5, 33, 40, 61, 200):
                for word in ("", "R", surely(machine, "")[:4], random_word(random, 4), surely(machine, "LL")[:4]):
                    for modulus in (1, 6, 2 ** 20, 10 ** 9):
                        self.assertEqual(rest_of_roads(machine, length, word, modulus),
                                         by_steps(machine, length, word, modulus))

    def test_lengths_beyond(self):
        random = seeded(612)
        for machine in some_machines(random, 40, states=3):
            for word in ("", random_word(random, 2), surely(machine, random_road(random, 2))[:3]):
                for length in (1000, HUGE - 1, HUGE):
                    for modulus in (1, 12, 10 ** 9):
                        answer = asked(rest_of_roads, machine=machine, length=length, word=word, modulus=modulus)
                        self.assertEqual(answer, by_powers(machine, length, word, modulus))

    def test_silent_turns_that_come_round(self):
        random = seeded(613)
        silent = [
            ("", [(("", 1), ("L", 0), ""), (("", 0), ("R", 1), "L")]),
            ("L", [(("", 0), ("", 1), "R"), (("", 1), ("RL", 0), "")]),
            ("", [(("", 1), ("", 2), ""), (("", 2), ("L", 0), ""), (("", 0), ("", 2), "R")]),
            ("", [(("", 0), ("", 1), ""), (("", 1), ("", 1), "R")]), LOST]
        for machine in silent:
            for word in all_roads(3):
                for length in (29, 500, HUGE - random.randint(0, 1000)):
                    self.assertEqual(rest_of_roads(machine, length, word, 10 ** 9),
                                     by_powers(machine, length, word, 10 ** 9))

    def test_eight_states_that_all_may_be_silent(self):
        random = seeded(614)
        for _ in range(10):
            rows = [
                ((random.choice(["", "", "L"]), random.randrange(8)), (random.choice(["", "R"]), random.randrange(8)),
                 random.choice(["", "LR"])) for _ in range(8)]
            for word in ("RLRL", "LLRR", random_road(random, 4)):
                for length in (40, 150):
                    self.assertEqual(rest_of_roads(("", rows), length, word, 10 ** 9),
                                     by_steps(("", rows), length, word, 10 ** 9))
                answer = rest_of_roads(("", rows), HUGE, word, 10 ** 9)
                self.assertEqual(rest_of_roads(("", rows), HUGE, word, 2 * 10 ** 8), answer % (2 * 10 ** 8))

    def test_the_two_turns_behind_a_road_have_as_many(self):
        # All roads that begin with a word are those that begin with it and L, with it and R, or end with it.
        random = seeded(615)
        for machine in some_machines(random, 25) + [machine_of((12, 0, 0, 1)), machine_of((0, 7, 1, 2))]:
            for word in ("", "L", "RLL"):
                for length in (4, 12):
                    parts = [number_of_roads(machine, length, word + turn) for turn in "LR"]
                    same = sum(full(machine, road) == word for road in roads_of(length))
                    self.assertEqual(number_of_roads(machine, length, word), sum(parts) + same)

    def test_machines_of_maps(self):
        for one in [(12, 0, 0, 1), (0, 12, 1, 0), (1, 0, 0, 11), (7, 3, 1, 2), (1, 60, 0, 1)]:
            machine = machine_of(one)
            for word in ("", "R", "RLRL", "LLLL"):
                count = number_of_roads(machine, 40, word)
                self.assertEqual(rest_of_roads(machine, 40, word, 10 ** 9), count % 10 ** 9)
                # So far on it is sure for each road whether it begins so.
                count = by_steps(machine, 300, word, 10 ** 9)
                self.assertEqual(by_steps(machine, 301, word, 10 ** 9), 2 * count % 10 ** 9)
                self.assertEqual(rest_of_roads(machine, 300, word, 10 ** 9), count)
                self.assertEqual(rest_of_roads(machine, HUGE, word, 10 ** 9),
                                 count * pow(2, HUGE - 300, 10 ** 9) % 10 ** 9)
        self.assertEqual(rest_of_roads(PLAIN, HUGE, "RL", 10 ** 9), pow(2, HUGE - 2, 10 ** 9))

    def test_a_modulus_of_one(self):
        for machine in (PLAIN, DOUBLE, LOST):
            for length in (0, 1, HUGE):
                for word in ("", "R", "RRLL"):
                    self.assertEqual(asked(rest_of_roads, machine=machine, length=length, word=word, modulus=1), 0)

    def test_long_words(self):
        random = seeded(616)
        for machine in [LOST, DOUBLE] + some_machines(random, 10, states=3):
            word = full(machine, random_road(random, 12))
            for length in (13, 60):
                self.assertEqual(rest_of_roads(machine, length, word, 10 ** 9),
                                 by_steps(machine, length, word, 10 ** 9))
            if len(word) < 12:
                self.assertEqual(rest_of_roads(machine, HUGE, word, 9973), by_powers(machine, HUGE, word, 9973))


class NumberBelow(unittest.TestCase):

    def check(self, machine, length, fraction):
        answer = asked(number_below, machine=machine, length=length, fraction=fraction)
        road = road_to(fraction)
        self.assertEqual(answer, sum(lower(full(machine, each), road) for each in roads_of(length)))

    def test_short_lengths(self):
        random = seeded(621)
        for machine in some_machines(random, 60):
            for length in range(5):
                for fraction in [(1, 1), (1, 2), (3, 1), random_fraction(random, 9), random_fraction(random, 60)]:
                    self.check(machine, length, fraction)

    def test_the_number_of_what_is_written(self):
        random = seeded(622)
        for machine in some_machines(random, 60):
            for length in range(6):
                for road in (random_road(random, length), random_road(random, length + 1)):
                    self.check(machine, length, told(full(machine, road)))

    def test_plain_roads_to_length_forty(self):
        random = seeded(623)
        for road in all_roads(4):
            for length in range(7):
                self.assertEqual(number_below(PLAIN, length, told(road)), plain_below(length, road))
        for length in (0, 1, 13, 39, 40):
            for many in (0, 12, 39, 40, 41, 60, 400):
                for road in (random_road(random, many), "R" * many, "L" * many):
                    answer = asked(number_below, machine=PLAIN, length=length, fraction=told(road))
                    self.assertEqual(answer, plain_below(length, road))

    def test_machines_of_maps_to_length_forty(self):
        random = seeded(624)
        for size in range(-12, 13):
            if size != 0:
                one = random_map_of_size(random, 20, size)
                machine = machine_of(one)
                for length in (7, 40):
                    road = random_road(random, random.choice((3, length, 40)))
                    answer = number_below(machine, length, moved(one, told(road)))
                    below = plain_below(length, road)
                    same = length == len(road)
                    self.assertEqual(answer, below if size > 0 else 2 ** length - below - same)

    def test_roads_of_four_hundred_turns(self):
        random = seeded(625)
        for machine in some_machines(random, 20) + [DOUBLE, HALF, SWAP, LOST]:
            road = random_road(random, 400)
            fraction = told(road)
            for length in (0, 3):
                self.check(machine, length, fraction)
            least = number_below(machine, 40, fraction)
            self.assertTrue(0 <= least <= 2 ** 40)
            word = (surely(machine, "LRRL" * 10) + road)[:400]
            self.check(machine, 4, told(word))

    def test_long_runs_of_one_turn(self):
        for machine in (PLAIN, DOUBLE, HALF, SWAP):
            for turn in "LR":
                fraction = told(turn * 400)
                for length in (0, 1, 5, 40):
                    answer = number_below(machine, length, fraction)
                    self.assertEqual(answer, 2 ** length if turn == "R" else 0)

    def test_it_grows_with_the_fraction(self):
        random = seeded(626)
        for machine in some_machines(random, 20):
            fractions = sorted((random_fraction(random, 30) for _ in range(8)), key=lambda each: each[0] / each[1])
            numbers = [number_below(machine, 40, fraction) for fraction in fractions]
            self.assertEqual(numbers, sorted(numbers))

    def test_machines_told_otherwise(self):
        random = seeded(627)
        for machine in some_machines(random, 20):
            for other in told_otherwise(random, machine):
                for fraction in [(1, 1), (2, 5), (10 ** 9, 618033987)]:
                    self.assertEqual(number_below(other, 40, fraction), number_below(machine, 40, fraction))

    def test_small_maps(self):
        for one in all_maps(2):
            if abs(measure(one)) <= 4:
                for fraction in [(1, 1), (1, 2), (3, 2), moved(one, (2, 1))]:
                    self.check(machine_of(one), 4, fraction)

    def test_joined_machines(self):
        for one in (DOUBLE, SWAP, HALF):
            for other in (DOUBLE, SWAP, LOST):
                self.check(joined(one, other), 5, (3, 2))


if __name__ == "__main__":
    unittest.main()
