"""Promises 8 and 9: what is sure, how long a machine waits, and which words it writes."""

import unittest
from itertools import product

from leftroads.machines import cut_in, joined, least
from leftroads.maps import machine_of
from leftroads.waits import ahead, never, surely, wait, writes
from tests.made import come_to, full, some_machines, sure_beginning, sure_steps, told_otherwise
from tests.plain import (
    all_maps, all_roads, asked, common_beginning, led, measure, random_map_of_size, random_road, seeded)

DOUBLE, HALF, SWAP = machine_of((2, 0, 0, 1)), machine_of((1, 0, 0, 2)), machine_of((0, 1, 1, 0))
PLAIN = ("", [(("L", 0), ("R", 0), "")])
HELD = ("", [(("", 1), ("", 2), ""), (("L", 1), ("RL", 3), "L"), (("L", 2), ("RR", 3), "R"), (("L", 3), ("R", 3), "")])
SIZES = [number for number in range(-12, 13) if number != 0]


def map_machines(number, many):
    random = seeded(number)
    return [(random_map_of_size(random, 60, size), size) for size in SIZES for _ in range(many)]


class Surely(unittest.TestCase):

    def test_any_machines(self):
        for machine in some_machines(seeded(501), 80):
            for road in all_roads(5):
                self.assertEqual(asked(surely, machine=machine, road=road), sure_beginning(machine, road))

    def test_what_all_short_roads_share(self):
        for machine in some_machines(seeded(502), 50, states=3, most=3):
            for road in all_roads(2):
                shared = common_beginning([full(machine, road + rest) for rest in all_roads(8)])
                self.assertEqual(surely(machine, road), shared)

    def test_it_is_what_the_least_form_has_written(self):
        random = seeded(503)
        for machine in some_machines(random, 30) + [DOUBLE, HALF, SWAP, HELD]:
            form = least(machine)
            for road in all_roads(4) + [random_road(random, 60)]:
                self.assertEqual(surely(machine, road), form[0] + led(form, road)[0])
            for other in told_otherwise(random, machine):
                for road in all_roads(3):
                    self.assertEqual(surely(other, road), surely(machine, road))

    def test_some(self):
        ended = ("", [(("", 0), ("", 0), "RLL")])
        self.assertEqual(surely(ended, ""), "RLL")
        self.assertEqual(surely(ended, "LRL"), "RLL")
        self.assertEqual(surely(("L", [(("LR", 0), ("LL", 0), "L")]), ""), "LL")
        self.assertEqual(surely(HELD, "LLL"), "LL")
        self.assertEqual(surely(HELD, "LLLR"), "LLRL")
        self.assertEqual(surely(PLAIN, "R" * 60), "R" * 60)

    def test_long_roads(self):
        random = seeded(504)
        for machine in some_machines(random, 20):
            for road in (random_road(random, 60), "L" * 60, "R" * 60):
                self.assertEqual(surely(machine, road), sure_beginning(machine, road))


class Wait(unittest.TestCase):

    def longest(self, steps, state, ahead_of=()):
        """The longest way of silent turns from a state on, None if one comes round."""
        if state in ahead_of:
            return None
        found = [0]
        for word, follower in steps[state]:
            if word == "":
                more = self.longest(steps, follower, (*ahead_of, state))
                if more is None:
                    return None
                found.append(more + 1)
        return max(found)

    def expected(self, machine):
        steps = sure_steps(machine)
        waits = [self.longest(steps, state) for state in come_to(machine)]
        return None if None in waits else max(waits)

    def test_any_machines(self):
        seen = set()
        for machine in some_machines(seeded(511), 600):
            answer = asked(wait, machine=machine)
            self.assertEqual(answer, self.expected(machine))
            seen.add(answer)
        self.assertLessEqual({None, 0, 1, 2, 3}, seen)

    def test_roads_at_which_nothing_more_is_sure(self):
        for machine in some_machines(seeded(512), 60, states=3):
            answer = wait(machine)
            silent = [len(rest) for road, rest in product(all_roads(3), all_roads(4))
                      if sure_beginning(machine, road) == sure_beginning(machine, road + rest)]
            # Three states are come to behind two turns and can wait two turns, or for ever.
            self.assertEqual(max(silent), 4 if answer is None else answer)

    def test_machines_of_maps_wait_at_most_their_size_less_one_and_do_so(self):
        for one, size in map_machines(513, 3):
            self.assertEqual(asked(wait, machine=machine_of(one)), abs(size) - 1)

    def test_long_ways(self):
        for states in range(1, 9):
            rows = [(("", state + 1), ("L", state), "") for state in range(states - 1)]
            self.assertEqual(wait(("", rows + [(("L", 0), ("R", 0), "")])), states - 1)
            self.assertIsNone(wait(("", rows + [(("", 0), ("R", 0), "")])))
            self.assertIsNone(wait(("R", rows + [(("LLL", 0), ("", states - 1), "RL")])) if states > 1 else None)

    def test_it_is_that_of_the_least_form(self):
        # What is held back is not waited for, and states that cannot be come to do not wait.
        self.assertEqual(wait(("", [(("", 1), ("", 1), ""), (("LR", 0), ("LL", 0), "L")])), 0)
        self.assertEqual(wait(("", [(("", 1), ("", 1), ""), (("LR", 0), ("LL", 0), "")])), 1)
        self.assertEqual(wait(("", [(("", 1), ("", 1), "L"), (("LR", 1), ("LL", 1), "L")])), 1)
        self.assertEqual(wait(("", [(("L", 0), ("R", 0), ""), (("", 1), ("", 1), "")])), 0)
        self.assertIsNone(wait(("", [(("", 0), ("", 0), "LLL")])))
        random = seeded(514)
        for machine in some_machines(random, 60):
            for other in told_otherwise(random, machine):
                self.assertEqual(wait(other), wait(machine))


class Ahead(unittest.TestCase):

    def expected(self, machine):
        """The least and the greatest sum along all ways, as far as they go, and whether they go on growing."""
        steps, first = sure_steps(machine), len(sure_beginning(machine, ""))
        states = len(steps)
        far, farther = states, states * (states * 40 + 40)
        answers = []
        for pick in (min, max):
            sums = [0] * states
            for turn in range(1, farther + 1):
                sums = [pick([0] + [len(word) - 1 + sums[to] for word, to in own]) for own in steps]
                if turn == far:
                    early = sums[0]
            answers.append(first + sums[0] if sums[0] == early else None)
        return tuple(answers)

    def test_any_machines(self):
        seen = set()
        for machine in some_machines(seeded(521), 60, states=4):
            answer = asked(ahead, machine=machine)
            self.assertEqual(answer, self.expected(machine))
            seen.add((answer[0] is None, answer[1] is None))
        self.assertEqual(seen, {(True, True), (True, False), (False, True), (False, False)} & seen)
        self.assertGreater(len(seen), 2)

    def test_eight_states(self):
        for machine in some_machines(seeded(522), 6):
            self.assertEqual(ahead(machine), self.expected(machine))

    def test_short_roads_stay_between(self):
        for machine in some_machines(seeded(523), 200):
            low, high = ahead(machine)
            for road in all_roads(5):
                number = len(sure_beginning(machine, road)) - len(road)
                self.assertTrue(low is None or low <= number)
                self.assertTrue(high is None or number <= high)

    def test_some(self):
        self.assertEqual(ahead(PLAIN), (0, 0))
        self.assertEqual(ahead(SWAP), (0, 0))
        self.assertEqual(ahead(machine_of((1, 3, 0, 1))), (3, 3))
        self.assertEqual(ahead(DOUBLE), (None, None))
        self.assertEqual(ahead(("", [(("", 0), ("", 0), "")])), (None, 0))
        self.assertEqual(ahead(("", [(("LR", 0), ("RL", 0), "")])), (0, None))
        self.assertEqual(ahead(("", [(("L", 0), ("RL", 0), "")])), (0, None))
        self.assertEqual(ahead(("RL", [(("L", 0), ("", 0), "")])), (None, 2))
        self.assertEqual(ahead(HELD), (-1, 0))
        self.assertEqual(ahead(("", [(("", 1), ("", 1), ""), (("LR", 0), ("RR", 0), "R")])), (-1, 0))
        # What is written at an end does not count, but what is sure of it does.
        self.assertEqual(ahead(("", [(("", 1), ("", 1), "LLL"), (("LRL", 1), ("R", 1), "LL")])), (-1, None))
        self.assertEqual(ahead(("", [(("L", 0), ("R", 0), "LLLL")])), (0, 0))
        self.assertEqual(ahead(("", [(("", 0), ("", 0), "LLLL")])), (None, 4))

    def test_machines_told_otherwise(self):
        random = seeded(524)
        for machine in some_machines(random, 60):
            for other in told_otherwise(random, machine):
                self.assertEqual(ahead(other), ahead(machine))

    def test_machines_of_maps(self):
        # Its rates lie on both sides of 1, unless the size is 1 or -1.
        for one, size in map_machines(525, 2):
            machine = machine_of(one)
            expected = (len(machine[0]),) * 2 if abs(size) == 1 else (None, None)
            self.assertEqual(ahead(machine), expected)


class Writes(unittest.TestCase):

    def check(self, machine, word, most=8):
        answer = asked(writes, machine=machine, word=word)
        found = next((road for road in all_roads(most) if word in full(machine, road)), None)
        if found is not None or answer is None or len(answer) <= most:
            self.assertEqual(answer, found)
        else:
            self.assertIn(word, full(machine, answer))
        return answer

    def test_any_machines(self):
        seen = set()
        for machine in some_machines(seeded(531), 40):
            for word in all_roads(4):
                answer = self.check(machine, word, 7)
                seen.add(None if answer is None else len(answer))
        self.assertLessEqual({None, 0, 1, 2, 3, 4, 5}, seen)

    def test_machines_with_words_of_at_most_one_turn(self):
        for machine in some_machines(seeded(532), 60, states=4, most=1):
            for word in all_roads(4):
                self.check(machine, word, 7)

    def test_the_empty_word(self):
        for machine in some_machines(seeded(533), 30):
            self.assertEqual(asked(writes, machine=machine, word=""), "")

    def test_words_across_writings(self):
        self.assertEqual(self.check(PLAIN, "LRRL"), "LRRL")
        machine = ("L", [(("L", 1), ("RL", 0), ""), (("R", 0), ("R", 1), "LLR")])
        self.assertEqual(self.check(machine, "LRLR"), "RR")
        # Half of it stands in what is written first, half in the end.
        self.assertEqual(self.check(("LR", [(("L", 0), ("L", 0), "RL")]), "LRRL"), "")
        self.assertEqual(self.check(("L", [(("", 1), ("R", 0), ""), (("", 1), ("", 1), "RLL")]), "LRLL"), "L")

    def test_words_in_an_end_alone(self):
        ended = ("", [(("L", 0), ("L", 0), "R")])
        self.assertEqual(self.check(ended, "R"), "")
        self.assertEqual(self.check(ended, "LLR"), "LL")
        self.assertIsNone(self.check(ended, "RL"))
        self.assertIsNone(self.check(ended, "RR"))

    def test_words_that_begin_anew_within_themselves(self):
        for machine in (PLAIN, ("", [(("", 1), ("LR", 0), ""), (("LL", 0), ("R", 0), "")])):
            for word in ("LLLR", "LLRL", "LRLR", "RRLR", "RLRL", "LLLL"):
                self.check(machine, word)
        looped = ("LL", [(("L", 1), ("L", 1), ""), (("R", 0), ("L", 1), "")])
        self.assertEqual(self.check(looped, "LLLR"), "LL")
        self.assertEqual(self.check(looped, "LLLLLLR"), "LRRRL")

    def test_far_off(self):
        for length in (7, 20, 60):
            road = random_road(seeded(length), length)
            only_right = ("", [(("R", 0), ("R", 0), "")])
            machine = cut_in(only_right, road, ("", [(("L", 0), ("L", 0), "")]))
            self.assertEqual(writes(machine, "L"), road)

    def test_states_that_cannot_be_come_to_write_nothing(self):
        self.assertIsNone(writes(("", [(("R", 0), ("R", 0), ""), (("L", 0), ("L", 0), "L")]), "L"))

    def test_machines_of_maps_write_every_word(self):
        for one in all_maps(2):
            if abs(measure(one)) <= 12 and 0 in (one[1], one[2]):
                for word in all_roads(2):
                    self.assertIsNotNone(self.check(machine_of(one), word, 6))
        for word in all_roads(4):
            self.check(DOUBLE, word)
            self.check(SWAP, word)

    def test_machines_told_otherwise(self):
        random = seeded(534)
        for machine in some_machines(random, 30):
            for other in told_otherwise(random, machine):
                for word in ("L", "RL", "LRR", "RLLR"):
                    self.assertEqual(writes(other, word), writes(machine, word))


class Never(unittest.TestCase):

    def check(self, machine, length):
        answer = asked(never, machine=machine, length=length)
        self.assertIs(type(answer), list)
        words = [word for word in all_roads(length) if len(word) == length]
        self.assertEqual(answer, [word for word in words if writes(machine, word) is None])
        self.assertEqual(answer, sorted(answer))
        found = "X".join(full(machine, road) for road in all_roads(6))
        for word in answer:
            self.assertNotIn(word, found)
        return answer

    def test_any_machines(self):
        seen = set()
        for machine in some_machines(seeded(541), 80):
            for length in range(5):
                seen.add(len(self.check(machine, length)))
        self.assertGreater(len(seen), 8)

    def test_all_words_that_short_roads_do_not_write(self):
        # Machines of two states write each word of three turns behind a short road, or never.
        for machine in some_machines(seeded(542), 100, states=2, most=2):
            for length in range(4):
                found = "X".join(full(machine, road) for road in all_roads(8))
                words = [word for word in all_roads(length) if len(word) == length]
                self.assertEqual(self.check(machine, length), [word for word in words if word not in found])

    def test_length_zero(self):
        for machine in some_machines(seeded(543), 20) + [("", [(("", 0), ("", 0), "")])]:
            self.assertEqual(asked(never, machine=machine, length=0), [])

    def test_some(self):
        self.assertEqual(self.check(PLAIN, 4), [])
        self.assertEqual(self.check(("", [(("", 0), ("", 0), "")]), 1), ["L", "R"])
        self.assertEqual(self.check(("", [(("", 0), ("", 0), "LRL")]), 2), ["LL", "RR"])
        self.assertEqual(self.check(("", [(("LR", 0), ("RL", 0), "")]), 3), ["LLL", "RRR"])
        self.assertEqual(len(self.check(("", [(("", 0), ("", 0), "")]), 4)), 16)
        self.assertEqual(self.check(("", [(("L", 0), ("L", 0), "R")]), 2), ["RL", "RR"])

    def test_machines_of_maps(self):
        for one in [(2, 0, 0, 1), (0, 3, 1, 0), (1, 0, 0, 12), (1, 1, 0, 1)]:
            for length in range(5):
                self.assertEqual(never(machine_of(one), length), [])
        # All that is sent lies between 5 / 3 and 2, so that RLR is written first, but later any word.
        self.assertEqual(never(machine_of((2, 5, 1, 3)), 4), [])

    def test_great_machines(self):
        great = joined(machine_of((5, 0, 0, 2)), machine_of((1, 0, 0, 5)))
        self.assertEqual(never(great, 4), [])
        joint = joined(great, ("", [(("LR", 0), ("RL", 0), "")]))
        self.assertEqual(never(joint, 3), ["LLL", "RRR"])


if __name__ == "__main__":
    unittest.main()
