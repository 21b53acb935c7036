"""Promise 9: how many turns a machine writes to those that it reads."""

import unittest
from fractions import Fraction

from leftroads.machines import joined, least
from leftroads.maps import machine_of
from leftroads.rates import fastest, rate, rates, slowest
from leftroads.waits import wait
from tests.made import come_to, random_machine, some_machines, told_otherwise, with_lost_states
from tests.plain import all_maps, all_roads, asked, led, least_way, measure, pair, random_map_of_size, seeded
from tests.turning import HELD, PLAIN

DOUBLE, HALF, SWAP = machine_of((2, 0, 0, 1)), machine_of((1, 0, 0, 2)), machine_of((0, 1, 1, 0))
LOST = ("", [(("", 0), ("R", 0), "")])
COURSES = [(ahead, ring) for ahead in all_roads(2) for ring in all_roads(4)[1:]]


def rate_of(machine, told):
    """Round by round, until a state stands before the ring again."""
    ahead, ring = told
    states, lengths = [led(machine, ahead)[1]], [0]
    while states[-1] not in states[:-1]:
        word, state = led(machine, ring, states[-1])
        states.append(state)
        lengths.append(lengths[-1] + len(word))
    at = states.index(states[-1])
    return pair(Fraction(lengths[-1] - lengths[at], len(ring) * (len(states) - 1 - at)))


def rates_of_ways_back(machine):
    """The least and the greatest rate of the ways back to a state, of no more turns than there are states."""
    found = []
    for start in come_to(machine):
        ends = {(start, 0)}
        for length in range(1, len(machine[1]) + 1):
            ends = {(follower, done + len(word)) for state, done in ends for word, follower in machine[1][state][:2]}
            found += [Fraction(done, length) for state, done in ends if state == start]
    return (pair(min(found)), pair(max(found)))


class Rate(unittest.TestCase):

    def test_drawn_machines(self):
        for machine in some_machines(seeded(951), 60):
            for told in COURSES[::3]:
                self.assertEqual(asked(rate, machine=machine, told=told), rate_of(machine, told))

    def test_machines_told_otherwise_and_courses_told_otherwise(self):
        random = seeded(952)
        for machine in some_machines(random, 25):
            for other in told_otherwise(random, machine) + [least(machine)]:
                for ahead, ring in [("", "L"), ("R", "LR"), ("LL", "RRL")]:
                    answer = rate(machine, (ahead, ring))
                    self.assertEqual(rate(other, (ahead, ring)), answer)
                    self.assertEqual(rate(machine, (ahead + ring, ring * 2)), answer)
                    self.assertEqual(rate(machine, (ahead + ring[0], ring[1:] + ring[0])), answer)

    def test_the_ring_comes_round_only_after_several_rounds(self):
        for states in range(1, 9):
            rows = [(("R" * (state // 3), (state + 1) % states), ("", 0), "LL") for state in range(states)]
            expected = pair(Fraction(sum(state // 3 for state in range(states)), states))
            for ring in ("L", "LL", "LLLLL", "LLLLLL"):
                self.assertEqual(rate(("L", rows), ("", ring)), expected)
        # The first rounds do not come again.
        rows = [(("LLLL", 1), ("L", 1), ""), (("LLL", 2), ("L", 2), ""), (("", 3), ("L", 2), ""),
                (("R", 2), ("L", 2), "")]
        self.assertEqual(rate(("RRR", rows), ("", "L")), (1, 2))
        self.assertEqual(rate(("RRR", rows), ("", "LLL")), (1, 2))
        self.assertEqual(rate(("RRR", rows), ("LL", "LR")), (1, 2))

    def test_nothing_is_written(self):
        self.assertEqual(rate(LOST, ("RRR", "L")), (0, 1))
        self.assertEqual(rate(LOST, ("", "LLLL")), (0, 1))
        self.assertEqual(rate(("RRR", [(("", 0), ("", 0), "LLLL")]), ("R", "LRL")), (0, 1))
        self.assertEqual(rate(LOST, ("", "LLR")), (1, 3))

    def test_no_common_divisor(self):
        for words, expected in [(("LL", "RR"), (2, 1)), (("L", ""), (1, 2)), (("LLLL", "RR"), (3, 1))]:
            machine = ("", [((words[0], 0), (words[1], 0), "")])
            self.assertEqual(rate(machine, ("", "LR")), expected)
            self.assertEqual(rate(machine, ("L", "LRRLRL")), expected)
            for above in rate(machine, ("", "LR")):
                self.assertIs(type(above), int)

    def test_what_is_written_first_and_at_ends_counts_nothing(self):
        for first in ("", "RLRL"):
            self.assertEqual(rate((first, [(("L", 0), ("R", 0), "LLL")]), ("RRR", "LLR")), (1, 1))


class Rates(unittest.TestCase):

    def check(self, machine):
        answer = asked(rates, machine=machine)
        self.assertEqual(answer, rates_of_ways_back(machine), machine)
        slow, fast = asked(slowest, machine=machine), asked(fastest, machine=machine)
        for told, expected in ((slow, answer[0]), (fast, answer[1])):
            self.assertEqual(told, least_way(told))
            self.assertEqual(rate_of(machine, told), expected)
            self.assertEqual(rate(machine, told), expected)
        return answer

    def test_drawn_machines(self):
        for machine in some_machines(seeded(961), 150):
            least_rate, greatest_rate = self.check(machine)
            for told in COURSES[::7]:
                above, below = rate(machine, told)
                self.assertGreaterEqual(above * least_rate[1], least_rate[0] * below)
                self.assertLessEqual(above * greatest_rate[1], greatest_rate[0] * below)

    def test_silent_machines(self):
        random = seeded(962)
        seen = set()
        for _ in range(100):
            machine = random_machine(random, random.randint(1, 8), 1)
            answer = self.check(machine)
            seen.add(answer[0] == (0, 1))
            # It waits without end just where some round writes nothing.
            self.assertEqual(wait(machine) is None, answer[0] == (0, 1))
        self.assertEqual(seen, {True, False})

    def test_it_waits_without_end_just_where_the_least_rate_is_nothing(self):
        for machine in some_machines(seeded(963), 200) + [HELD, LOST, PLAIN]:
            self.assertEqual(wait(machine) is None, rates(machine)[0] == (0, 1))

    def test_states_that_cannot_be_come_to(self):
        random = seeded(964)
        for machine in some_machines(random, 30, states=5, most=3):
            self.assertEqual(rates(with_lost_states(random, machine)), rates(machine))
        lost = ("", [(("L", 0), ("R", 0), ""), (("", 1), ("LLLL", 2), ""), (("LLLL", 2), ("", 1), "")])
        self.assertEqual(self.check(lost), ((1, 1), (1, 1)))

    def test_states_that_are_left_for_ever(self):
        rows = [(("LLLL", 1), ("", 1), ""), (("L", 2), ("RR", 1), ""), (("RRR", 2), ("RR", 2), "")]
        self.assertEqual(self.check(("", rows)), ((2, 1), (3, 1)))
        rows = [(("LLLL", 0), ("L", 1), ""), (("L", 1), ("R", 2), ""), (("", 3), ("L", 1), ""),
                (("LL", 3), ("LL", 3), "")]
        self.assertEqual(self.check(("", rows)), ((1, 1), (4, 1)))

    def test_rounds_of_all_states(self):
        for states in range(1, 9):
            rows = [(("LLLL"[:state % 5], (state + 1) % states), ("RR", (state + 1) % states), "")
                    for state in range(states)]
            self.check(("", rows))
            # The only round with another rate than one goes through all states.
            rows = [(("L", 0), ("R", (state + 1) % states), "") for state in range(states)]
            rows[-1] = (("L", 0), ("", 0), "")
            self.assertEqual(self.check(("", rows)), (pair(Fraction(states - 1, states)), (1, 1)))
            rows[-1] = (("L", 0), ("RLRL", 0), "")
            self.assertEqual(self.check(("", rows)), ((1, 1), pair(Fraction(states + 3, states))))

    def test_rates_that_lie_close_together(self):
        rows = [(("L", 1), ("R", 3), ""), (("L", 2), ("R", 2), ""), (("L", 0), ("LL", 0), ""),
                (("L", 4), ("L", 4), ""), (("L", 5), ("L", 5), ""), (("L", 6), ("LLL", 0), ""),
                (("LL", 0), ("LLL", 0), "")]
        self.assertEqual(self.check(("", rows)), ((1, 1), (3, 2)))
        rows = [(("", 1), ("", 3), ""), (("L", 2), ("L", 2), ""), (("", 0), ("", 0), ""),
                (("L", 4), ("L", 4), ""), (("", 5), ("", 5), ""), (("L", 6), ("L", 6), ""), (("", 0), ("", 0), "")]
        self.assertEqual(self.check(("", rows)), ((1, 3), (2, 5)))

    def test_machines_told_otherwise(self):
        random = seeded(965)
        for machine in some_machines(random, 30, states=5):
            for other in told_otherwise(random, machine):
                self.assertEqual(rates(other), rates(machine))

    def test_machines_of_maps(self):
        random = seeded(966)
        for one in [one for one in all_maps(2) if abs(measure(one)) <= 12] + [
                random_map_of_size(random, 60, size) for size in range(-12, 13) if size != 0]:
            machine, size = machine_of(one), abs(measure(one))
            self.assertEqual(asked(rates, machine=machine), ((1, size), (size, 1)))
            for told, expected in ((slowest(machine), (1, size)), (fastest(machine), (size, 1))):
                self.assertEqual(told, least_way(told))
                self.assertEqual(rate_of(machine, told), expected)

    def test_some(self):
        self.assertEqual(self.check(PLAIN), ((1, 1), (1, 1)))
        self.assertEqual(self.check(SWAP), ((1, 1), (1, 1)))
        self.assertEqual(self.check(LOST), ((0, 1), (1, 1)))
        self.assertEqual(self.check(("RRR", [(("", 0), ("", 0), "LLLL")])), ((0, 1), (0, 1)))
        self.assertEqual(self.check(DOUBLE), ((1, 2), (2, 1)))
        self.assertEqual(self.check(HELD), ((1, 1), (1, 1)))

    def test_great_machines(self):
        random = seeded(967)
        machines = [joined(one, other) for one, other in zip(
            some_machines(random, 8, states=8, most=2), some_machines(random, 8, states=8, most=2))]
        machines += [joined(machine_of((12, 5, 0, 1)), machine_of((1, 0, 0, 7))),
                     joined(some_machines(random, 1)[0], machine_of((5, 0, 0, 2)))]
        for machine in machines:
            answer = rates(machine)
            for told, expected, factor in ((slowest(machine), answer[0], 1), (fastest(machine), answer[1], -1)):
                self.assertEqual(rate_of(machine, told), expected)
                self.assertTrue(no_round_is_beyond(machine, expected, factor))


def no_round_is_beyond(machine, rate_told, factor):
    """Whether no round has a lower rate, or a higher one for the factor -1: so what its turns make less stays bound."""
    above, below = rate_told
    rows = [machine[1][state] for state in come_to(machine)]
    place = {state: at for at, state in enumerate(come_to(machine))}
    least_sums = [0] * len(rows)
    for _ in range(len(rows) + 1):
        before = least_sums
        least_sums = [
            min([0] + [factor * (below * len(word) - above) + before[place[follower]] for word, follower in row[:2]])
            for row in rows]
    return least_sums == before


if __name__ == "__main__":
    unittest.main()
