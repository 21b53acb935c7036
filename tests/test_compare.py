"""Promises 8 and 9: whether two machines write the same, and the first road that parts them."""

import unittest
from itertools import product

from leftroads.compare import agree, alike, first_unlike
from leftroads.machines import cut_in, joined, least
from leftroads.maps import machine_of
from tests.made import (
    first_unlike_road, full, late, random_machine, random_word, some_machines, told_otherwise, with_ends,
    with_one_change, written_without_end)
from tests.plain import all_maps, all_roads, asked, measure, random_map_of_size, seeded

DOUBLE, HALF, SWAP = machine_of((2, 0, 0, 1)), machine_of((1, 0, 0, 2)), machine_of((0, 1, 1, 0))
PLAIN = ("", [(("L", 0), ("R", 0), "")])
COURSES = [(ahead, ring) for ahead in all_roads(2) for ring in all_roads(4)[1:]]


def chain(states, end, last="R"):
    """A machine that writes what it reads, but after so many turns R in a row, for ever, something else."""
    rows = [(("L", 0), ("R", min(state + 1, states - 1)), "") for state in range(states)]
    rows[-1] = (("L", states - 1), (last, states - 1), end)
    return ("", rows)


def order(road):
    return (len(road), road)


class Alike(unittest.TestCase):

    def check(self, one, other):
        """Hold both questions against all roads of as many turns as tell machines of this size apart."""
        # So many turns are enough, as promise 9 says.
        most = len(one[1]) + len(other[1]) - 1
        expected = first_unlike_road(one, other, min(most, 9))
        answer = asked(first_unlike, one=one, other=other)
        if expected is not None or most <= 9:
            self.assertEqual(answer, expected)
        if answer is not None:
            self.assertNotEqual(full(one, answer), full(other, answer))
            self.assertLessEqual(len(answer), most)
        self.assertEqual(first_unlike(other, one), answer)
        self.assertIs(asked(alike, one=one, other=other), answer is None)
        self.assertIs(alike(other, one), answer is None)
        return answer

    def test_machines_told_otherwise(self):
        random = seeded(301)
        for machine in some_machines(random, 60):
            for other in told_otherwise(random, machine) + [least(machine), machine]:
                self.assertIsNone(self.check(machine, other))

    def test_machines_with_one_change(self):
        random = seeded(302)
        lengths = set()
        for machine in some_machines(random, 400, states=5):
            answer = self.check(machine, with_one_change(random, machine))
            lengths.add(None if answer is None else len(answer))
        self.assertLessEqual({None, 0, 1, 2, 3}, lengths)

    def test_machines_told_otherwise_with_one_change(self):
        random = seeded(303)
        for machine in some_machines(random, 60, states=4):
            for other in told_otherwise(random, machine):
                self.check(machine, with_one_change(random, other))

    def test_any_two(self):
        random = seeded(304)
        for _ in range(200):
            self.check(*some_machines(random, 2, states=3, most=1))

    def test_all_of_one_state_with_short_words(self):
        machines = [(first, [((left, 0), (right, 0), end)])
                    for first, left, right, end in product(["", "R"], ["", "R", "L"], ["R", "LR"], ["", "R", "RL"])]
        for one, other in product(machines, repeat=2):
            self.check(one, other)

    def test_machines_that_part_only_at_an_end(self):
        self.assertEqual(self.check(PLAIN, ("", [(("L", 0), ("R", 0), "L")])), "")
        for states in range(2, 9):
            self.assertEqual(self.check(PLAIN, chain(states, "L")), "R" * (states - 1))
            self.assertEqual(self.check(chain(states, "LR"), chain(states, "LL")), "R" * (states - 1))

    def test_machines_that_part_only_behind_many_turns(self):
        for states in range(2, 9):
            self.assertIsNone(self.check(PLAIN, chain(states, "")))
            self.assertEqual(self.check(PLAIN, chain(states, "", "L")), "R" * states)
            self.assertEqual(self.check(late(PLAIN), chain(states, "", "RL")), "R" * states)
        # Rounds of 7 and of 8 states, each with another end at the last one, part at the first of these.
        rounds = [("", [(("L", (at + 1) % many), ("L", (at + 1) % many), "R" if at == many - 1 else "")
                        for at in range(many)]) for many in (7, 8)]
        self.assertEqual(self.check(*rounds), "LLLLLL")

    def test_the_first_road_of_several(self):
        one = ("", [(("L", 1), ("R", 0), ""), (("L", 1), ("R", 2), ""), (("L", 2), ("R", 2), "")])
        other = ("", [(("L", 1), ("R", 0), ""), (("L", 1), ("R", 2), ""), (("R", 2), ("L", 2), "")])
        self.assertEqual(self.check(one, other), "LRL")
        both = ("", [(("L", 1), ("R", 1), ""), (("L", 1), ("L", 1), "")])
        self.assertEqual(self.check(PLAIN, both), "LR")

    def test_a_road_that_cannot_be_caught_up(self):
        # What one machine has written more may never be taken for what the other one writes later.
        self.assertEqual(self.check(("", [(("R", 0), ("R", 0), "")]), ("", [(("RR", 0), ("R", 0), "")])), "L")
        self.assertEqual(self.check(("R", [(("R", 0), ("R", 0), "")]), ("", [(("R", 0), ("R", 0), "R")])), None)
        self.assertEqual(self.check(("", [(("R", 1), ("R", 0), ""), (("", 1), ("", 1), "R")]),
                                    ("", [(("RR", 1), ("R", 0), ""), (("", 1), ("", 1), "")])), None)

    def test_deep_cuts(self):
        random = seeded(305)
        for length in (5, 12, 60):
            road = random_word(random, 0) + "".join(random.choice("LR") for _ in range(length))
            cut = cut_in(PLAIN, road, SWAP)
            self.assertEqual(asked(first_unlike, one=PLAIN, other=cut), road)
            self.assertIs(alike(PLAIN, cut), False)
            self.assertIsNone(first_unlike(late(cut), cut))
            self.assertIs(alike(late(cut), cut), True)

    def test_machines_of_maps(self):
        maps = [one for one in all_maps(2) if abs(measure(one)) <= 12]
        for one, other in product(maps, repeat=2):
            self.assertIs(alike(machine_of(one), machine_of(other)), one == other)
            answer = first_unlike(machine_of(one), machine_of(other))
            self.assertEqual(answer, first_unlike_road(machine_of(one), machine_of(other), 4))
            # Three numbers tell two maps apart.
            self.assertEqual(answer is None, one == other)
            self.assertLessEqual(len(answer or ""), 1)

    def test_great_machines(self):
        for one, other in [((7, 3, 1, 1), (5, 0, 0, 2)), ((0, 6, 1, 0), (1, 0, 0, 5))]:
            answer = joined(machine_of(one), machine_of(other))
            self.assertIs(alike(answer, late(answer)), True)
            self.assertIsNone(first_unlike(answer, late(answer)))
            self.assertIs(alike(answer, cut_in(answer, "LLRL", PLAIN)), False)
            self.assertEqual(first_unlike(answer, cut_in(answer, "LLRL", SWAP))[:4], "LLRL")


class Agree(unittest.TestCase):

    def unlike_course(self, one, other):
        """A short course for which two machines write unlike turns, None if there is none."""
        for told in COURSES:
            (word, goes_on), (other_word, other_goes_on) = (
                written_without_end(each, told, 12 + 9 * len(each[1])) for each in (one, other))
            both = min(len(word), len(other_word))
            if goes_on != other_goes_on or word[:both] != other_word[:both]:
                return told
            if not goes_on and word != other_word:
                return told
        return None

    def check(self, one, other):
        answer = asked(agree, one=one, other=other)
        self.assertIs(agree(other, one), answer)
        self.assertIs(answer, self.unlike_course(one, other) is None, (one, other))
        if alike(one, other):
            self.assertIs(answer, True)
        return answer

    def test_machines_told_otherwise(self):
        random = seeded(311)
        for machine in some_machines(random, 12, states=5):
            for other in told_otherwise(random, machine) + [least(machine), machine]:
                self.assertIs(self.check(machine, other), True)

    def test_machines_with_other_ends(self):
        random = seeded(312)
        seen = set()
        for machine in some_machines(random, 70, states=3, most=2):
            other = with_ends(random, machine, 1)
            seen.add((self.check(machine, other), alike(machine, other)))
            self.check(late(machine), other)
        self.assertEqual(seen, {(True, True), (True, False), (False, False)})

    def test_machines_with_one_change(self):
        random = seeded(313)
        seen = set()
        for machine in some_machines(random, 90, states=3, most=2):
            other = with_one_change(random, machine)
            seen.add((self.check(machine, other), alike(machine, other)))
        self.assertEqual(seen, {(True, True), (True, False), (False, False)})

    def test_all_of_one_state_with_short_words(self):
        machines = [(first, [((left, 0), (right, 0), end)])
                    for first, left, right, end in product(["", "R"], ["", "R", "L"], ["R", "RR"], ["", "R", "RL"])]
        for one, other in product(machines, repeat=2):
            self.check(one, other)

    def test_small_ones_that_write_little(self):
        random = seeded(314)
        seen = set()
        for _ in range(250):
            one, other = [random_machine(random, random.randint(1, 2), 1) for _ in range(2)]
            seen.add((self.check(one, other), alike(one, other)))
        self.assertIn((True, False), seen)

    def test_ends_alone_make_no_difference_where_turns_go_on(self):
        for end in ("", "L", "RL", "LLLL"):
            ended = ("", [(("L", 0), ("R", 0), end)])
            self.assertIs(self.check(PLAIN, ended), True)
            self.assertIs(alike(PLAIN, ended), end == "")
        for states in range(2, 8):
            self.assertIs(self.check(PLAIN, chain(states, "LL")), True)

    def test_ends_are_written_by_the_least_form_where_nothing_else_is(self):
        silent = ("", [(("", 0), ("", 0), "")])
        self.assertIs(self.check(silent, ("", [(("", 0), ("", 0), "R")])), False)
        self.assertIs(self.check(("R", [(("", 0), ("", 0), "")]), ("", [(("", 0), ("", 0), "R")])), True)
        # Here the ends differ, so that the least form writes none of them.
        parted = ("", [(("", 1), ("", 0), ""), (("", 0), ("", 1), "L")])
        self.assertIs(self.check(silent, parted), True)
        self.assertIs(alike(silent, parted), False)

    def test_one_course_alone_that_ends(self):
        # L for ever writes nothing in the one, and R for ever in the other one.
        one = ("", [(("", 0), ("R", 1), ""), (("R", 1), ("R", 1), "")])
        other = ("", [(("R", 0), ("R", 1), ""), (("R", 1), ("R", 1), "")])
        self.assertIs(self.check(one, other), False)
        late_end = ("", [(("", 0), ("R", 1), "L"), (("R", 1), ("R", 1), "")])
        self.assertIs(self.check(one, late_end), True)

    def test_turns_that_come_round_alike_but_at_another_speed(self):
        slow, fast = ("", [(("R", 0), ("R", 0), "")]), ("RRR", [(("RR", 0), ("RRRRR", 0), "L")])
        self.assertIs(self.check(slow, fast), True)
        self.assertIs(self.check(slow, ("", [(("RR", 0), ("RL", 0), "")])), False)
        one = ("", [(("LR", 0), ("LRLR", 0), "")])
        other = ("L", [(("RL", 0), ("RLRL", 1), "R"), (("RLRLRL", 1), ("RL", 0), "LL")])
        self.assertIs(self.check(one, other), True)
        self.assertIs(self.check(one, ("R", other[1])), False)

    def test_roads_that_lead_into_such_rounds(self):
        def into(word, ring, other_ring):
            return ("", [(("L", 1), ("R", 2), ""), ((ring, 1), (ring, 1), ""), ((word, 3), (word, 3), ""),
                         ((other_ring, 3), (other_ring, 3), "")])
        self.assertIs(self.check(into("L", "R", "RL"), into("LR", "RR", "LR")), True)
        self.assertIs(self.check(into("L", "R", "RL"), into("LR", "RR", "RL")), False)
        self.assertIs(self.check(into("L", "R", "RL"), into("L", "LR", "RL")), False)

    def test_roads_that_begin_alike_and_lead_into_such_rounds(self):
        # What is sure goes on into the rounds, where each machine comes round at another turn.
        def into(left, left_ring, right, right_ring):
            return ("", [((left, 1), (right, 2), ""), ((left_ring, 1), (left_ring, 1), ""),
                         ((right_ring, 2), (right_ring, 2), "")])
        one = into("", "RL", "RLRLRLR", "R")
        self.assertIs(self.check(one, into("R", "LR", "RLRL", "RLR")), False)
        self.assertIs(self.check(one, into("R", "LR", "RLRLRL", "RR")), True)
        self.assertIs(self.check(one, into("RLR", "LRLR", "RLRLR", "R")), False)
        self.assertIs(self.check(one, into("R", "LLR", "RLRLRL", "R")), False)
        self.assertIs(self.check(into("", "RRL", "RRLRRLR", "L"), into("RR", "LRR", "RRLRRLRLL", "LLL")), True)
        self.assertIs(self.check(into("", "RRL", "RRLRRLR", "L"), into("R", "LRR", "RRLRRLRLL", "LLL")), False)
        self.assertIs(self.check(into("", "RRL", "RRLRRLR", "L"), into("RRL", "RRL", "RRLRRLL", "L")), False)

    def test_ends_that_make_more_of_such_rounds_sure(self):
        # Where more is sure by the ends, the least form has written more of the round already.
        for left, ring, right, last in [
                ("", "RL", "RLRLRLR", "R"), ("RRL", "RRL", "RRLRRLL", "L"), ("L", "LLR", "LLLRLR", "RL")]:
            plain = ("", [((left, 1), (right, 2), ""), ((ring, 1), (ring, 1), ""), ((last, 2), (last, 2), "")])
            whole = left + ring * 4
            for length in range(1, 6):
                for own in (length, length + 1, length + 4):
                    ends = [whole[:length], whole[len(left):max(own, len(left))], ""]
                    other = ("", [(*row[:2], end) for row, end in zip(plain[1], ends)])
                    self.assertIs(self.check(plain, other), True)
                    self.assertIs(self.check(late(other), plain), True)
                    self.assertIs(self.check(other, ("", other[1][:2] + [((last + "L", 2), ("R", 2), "")])), False)

    def test_rounds_that_part_as_late_as_can_be(self):
        def rounds(ahead, ring):
            return ("", [((ahead, 1), (ahead, 1), ""), ((ring, 1), (ring, 1), "")])
        for ahead, ring, other_ahead, other_ring in [
                ("", "LLLR", "LLLRLLL", "LLLR"), ("", "LLLR", "LLLRLLLR", "LLLR"), ("", "LLRL", "LLRLLL", "RLLL"),
                ("LLRL", "LLRL", "", "LLR"), ("RRRR", "RRRL", "", "RRRR"), ("LRLR", "LRL", "", "LRLR"),
                ("LRLL", "RLLR", "LRL", "LRLR"), ("LLL", "LLR", "", "LLLL")]:
            for both in (rounds(ahead, ring), late(rounds(ahead, ring))):
                self.check(both, rounds(other_ahead, other_ring))
        split = ("", [(("", 1), ("", 2), ""), (("LLLR", 1), ("LLLR", 1), ""), (("LLL", 3), ("LLL", 3), ""),
                      (("RLLL", 3), ("RLLL", 3), "")])
        self.assertIs(self.check(split, rounds("L", "LLRL")), True)
        split[1][3] = (("RLLL", 3), ("RLLLR", 3), "")
        self.assertIs(self.check(split, rounds("L", "LLRL")), False)

    def test_machines_of_maps(self):
        maps = [one for one in all_maps(2) if abs(measure(one)) <= 12]
        for one, other in product(maps, repeat=2):
            self.assertIs(agree(machine_of(one), machine_of(other)), one == other)

    def test_machines_of_maps_with_other_ends(self):
        random = seeded(315)
        for size in (-12, -6, -1, 1, 2, 5, 12):
            machine = machine_of(random_map_of_size(random, 60, size))
            self.assertIs(asked(agree, one=machine, other=with_ends(random, machine, 3)), True)
            cut = cut_in(machine, "LRRLRLLR", SWAP)
            self.assertIs(agree(machine, cut), False)

    def test_one_road_alone_makes_no_difference(self):
        # One road is sent elsewhere, and all that go on from it are not.
        for machine in (PLAIN, DOUBLE, SWAP):
            for road in ("", "L", "RLR"):
                other = cut_in(machine, road, ("", [(("", 0), ("", 0), "RRRRRRR")]))
                back = cut_in(cut_in(other, road + "L", machine), road + "R", machine)
                self.assertEqual(first_unlike(machine, back), road)
                self.assertIs(agree(machine, back), True)
                self.assertIs(agree(machine, other), False)


if __name__ == "__main__":
    unittest.main()
