"""Promise 8: the least form, and the machines that are brought to it, held against a plain search."""

import unittest
from copy import deepcopy
from itertools import product

from leftroads.machines import cut_in, is_least, joined, least, run
from leftroads.maps import behind, machine_of, sent
from tests.made import (
    come_to, full, late, random_machine, some_machines, sure_beginning, sure_rest, told_otherwise, with_lost_states,
    with_one_change)
from tests.plain import (
    all_maps, all_roads, asked, common_beginning, led, measure, random_map_of_size, random_road, road_moved, seeded,
    told, written)

DOUBLE, HALF, SWAP = machine_of((2, 0, 0, 1)), machine_of((1, 0, 0, 2)), machine_of((0, 1, 1, 0))
PLAIN = ("", [(("L", 0), ("R", 0), "")])
SIZES = [number for number in range(-12, 13) if number != 0]


class Base(unittest.TestCase):

    def check_form(self, form):
        """That it is a machine whose states can be come to, in their order, and write unlike roads."""
        self.assertIs(type(form), tuple)
        first, rows = form
        self.assertIs(type(rows), list)
        self.assertEqual(come_to(form), list(range(len(rows))))
        # Two states are told apart by a road of fewer turns than there are states.
        kinds = {tuple(written(form, road, state) for road in all_roads(min(len(rows) - 1, 8)))
                 for state in range(len(rows))}
        if len(rows) <= 9:
            self.assertEqual(len(kinds), len(rows))
        # As much is written as is sure: no state holds back what all that follows begins with.
        self.assertEqual(sure_rest(form), [""] * len(rows))

    def check_alike(self, form, machine, most=6):
        for road in all_roads(most):
            self.assertEqual(full(form, road), full(machine, road))


class Search(unittest.TestCase):

    def test_what_the_tests_hold_for_sure_is_what_all_short_roads_share(self):
        for machine in some_machines(seeded(200), 150, states=3, most=3):
            shared = [common_beginning([written(machine, road, state) for road in all_roads(8)])
                      for state in range(len(machine[1]))]
            self.assertEqual(sure_rest(machine), shared)


class Least(Base):

    def check(self, machine):
        form = asked(least, machine=machine)
        self.check_form(form)
        self.check_alike(form, machine)
        self.assertLessEqual(len(form[1]), len(machine[1]))
        for road in all_roads(4):
            self.assertEqual(form[0] + led(form, road)[0], sure_beginning(machine, road))
        self.assertEqual(least(form), form)
        self.assertIs(asked(is_least, machine=form), True)
        self.assertIs(is_least(machine), machine == form)
        return form

    def test_any_machines(self):
        for machine in some_machines(seeded(201), 150):
            self.check(machine)

    def test_all_machines_of_one_state_with_short_words(self):
        words = all_roads(1)
        for first, left, right, end in product(words + ["LR"], words + ["RL"], words + ["RR"], words + ["RL"]):
            self.check((first, [((left, 0), (right, 0), end)]))

    def test_machines_of_two_states_with_short_words(self):
        words = ["", "L", "RL"]
        for left, right, end, other_right, other_end in product(words, repeat=5):
            self.check(("", [((left, 1), (right, 0), end), (("R", 0), (other_right, 1), other_end)]))

    def test_machines_told_otherwise_have_one_least_form(self):
        random = seeded(202)
        for machine in some_machines(random, 80):
            form = least(machine)
            for other in told_otherwise(random, machine):
                self.assertEqual(self.check(other), form)

    def test_machines_with_one_change_have_it_only_if_they_are_alike(self):
        random = seeded(203)
        seen = set()
        for machine in some_machines(random, 120, states=4):
            other = with_one_change(random, machine)
            # So many turns tell machines apart.
            most = 2 * len(machine[1]) - 1
            are_alike = all(full(machine, road) == full(other, road) for road in all_roads(most))
            self.assertEqual(least(machine) == least(other), are_alike)
            seen.add(are_alike)
        self.assertEqual(seen, {True, False})

    def test_what_is_sure_is_never_held_back(self):
        self.assertEqual(least(("", [(("LR", 0), ("LL", 0), "L")])), ("L", [(("RL", 0), ("LL", 0), "")]))
        self.assertEqual(
            least(("", [(("RL", 1), ("RR", 1), "R"), (("", 1), ("", 1), "")])),
            ("R", [(("L", 1), ("R", 1), ""), (("", 1), ("", 1), "")]))
        self.assertEqual(
            least(("", [(("R", 0), ("RR", 0), "RRR")])), ("RRR", [(("R", 0), ("RR", 0), "")]))

    def test_states_that_write_the_same_are_one(self):
        self.assertEqual(least(("", [(("L", 0), ("R", 1), "L"), (("L", 1), ("R", 0), "L")])),
                         ("", [(("L", 0), ("R", 0), "L")]))
        self.assertEqual(least(("", [(("", 1), ("", 2), ""), (("", 2), ("", 0), ""), (("", 0), ("", 1), "")])),
                         ("", [(("", 0), ("", 0), "")]))

    def test_states_that_write_nothing_and_lead_on(self):
        chain = ("", [(("", state + 1), ("", state + 1), "") for state in range(7)] + [(("L", 7), ("R", 7), "")])
        self.assertEqual(self.check(chain), chain)
        self.assertEqual(len(self.check((chain[0], chain[1][:7] + [(("", 0), ("R", 7), "")]))[1]), 8)
        self.assertEqual(self.check(("", chain[1][:7] + [(("", 7), ("", 7), "")])), ("", [(("", 0), ("", 0), "")]))

    def test_an_end_for_ever_is_written_first(self):
        self.assertEqual(self.check(("R", [(("", 1), ("", 1), "LLR"), (("", 0), ("", 0), "LLR")])),
                         ("RLLR", [(("", 0), ("", 0), "")]))
        self.assertEqual(self.check(("", [(("R", 1), ("", 2), "RLR"), (("", 1), ("", 1), "LR"),
                                          (("RLR", 1), ("RL", 1), "RLR")]))[0], "RL")

    def test_machines_of_maps(self):
        random = seeded(204)
        for size in SIZES:
            machine = machine_of(random_map_of_size(random, 60, size))
            self.assertIs(is_least(machine), True)
            self.assertEqual(asked(least, machine=machine), machine)
            for other in told_otherwise(random, machine):
                self.assertEqual(least(other), machine)
                self.assertIs(is_least(other), other == machine)

    def test_no_form_but_the_least_one_is_least(self):
        for machine in (DOUBLE, HALF, SWAP, PLAIN):
            for other in (late(machine), with_lost_states(seeded(205), machine)):
                self.assertIs(is_least(other), False)
        swapped = ("", [
            (("", 2), ("RR", 0), "R"), (("LL", 1), ("", 3), "L"), (("L", 0), ("RL", 1), ""), (("LR", 0), ("R", 1), "")])
        self.assertIs(is_least(swapped), False)
        self.assertEqual(least(swapped), DOUBLE)
        self.assertIs(is_least(("", [(("L", 0), ("LR", 0), "L")])), False)

    def test_forty_states_and_long_words(self):
        random = seeded(206)
        for states in (20, 40):
            machine = random_machine(random, states, 12)
            form = least(machine)
            self.check_alike(form, machine, 8)
            self.assertEqual(least(form), form)


class Joined(Base):

    def check(self, one, other, most=5):
        answer = asked(joined, one=one, other=other)
        for road in all_roads(most):
            self.assertEqual(full(answer, road), full(other, full(one, road)))
        self.check_form(answer)
        self.assertIs(is_least(answer), True)
        self.assertEqual(least(answer), answer)
        return answer

    def test_any_two_in_both_orders(self):
        random = seeded(211)
        for _ in range(50):
            one, other = some_machines(random, 2)
            self.check(one, other)
            self.check(other, one)

    def test_three(self):
        random = seeded(212)
        for _ in range(25):
            one, other, third = some_machines(random, 3, states=5, most=3)
            self.assertEqual(joined(joined(one, other), third), joined(one, joined(other, third)))
            self.check(joined(one, other), third, 4)

    def test_one_list_in_both_places(self):
        for machine in some_machines(seeded(213), 30) + [DOUBLE, HALF, SWAP, PLAIN]:
            kept = deepcopy(machine)
            self.assertEqual(self.check(machine, machine), joined(machine, deepcopy(machine)))
            self.assertEqual(machine, kept)

    def test_the_same_with_machines_that_are_alike(self):
        random = seeded(214)
        for _ in range(15):
            one, other = some_machines(random, 2, states=6)
            answer = joined(one, other)
            for each in told_otherwise(random, one):
                self.assertEqual(joined(each, other), answer)
            for each in told_otherwise(random, other):
                self.assertEqual(joined(one, each), answer)

    def test_with_the_machine_that_changes_nothing(self):
        for machine in some_machines(seeded(215), 40):
            self.assertEqual(joined(machine, PLAIN), least(machine))
            self.assertEqual(joined(PLAIN, machine), least(machine))

    def test_machines_of_maps(self):
        maps = [one for one in all_maps(2) if abs(measure(one)) <= 3]
        for one, other in product(maps, repeat=2):
            self.assertEqual(joined(machine_of(one), machine_of(other)), machine_of(behind(one, other)))
        self.assertEqual(joined(DOUBLE, HALF), PLAIN)

    def test_great_machines_of_maps(self):
        for one, other in [((7, 3, 1, 1), (5, 0, 0, 2)), ((0, 6, 1, 0), (1, 0, 0, 5)), ((12, 0, 0, 1), (1, 3, 1, 0))]:
            answer = joined(machine_of(one), machine_of(other))
            self.assertEqual(answer, machine_of(behind(one, other)))
            self.assertIs(is_least(answer), True)
            for road in all_roads(4):
                self.assertEqual(told(run(answer, road)), sent(other, sent(one, told(road))))


class CutIn(Base):

    def check(self, machine, road, other, most=5):
        answer = asked(cut_in, machine=machine, road=road, other=other)
        rests = all_roads(most)
        for each in rests + [road + rest for rest in rests] + [road[:at] + turn for at in range(len(road) + 1)
                                                               for turn in ("", "L", "R")]:
            self.assertEqual(full(answer, each), full(other if each.startswith(road) else machine, each))
        self.assertIs(is_least(answer), True)
        self.assertEqual(least(answer), answer)
        if len(answer[1]) <= 12:
            self.check_form(answer)
        return answer

    def test_any_machines_at_short_roads(self):
        random = seeded(221)
        for _ in range(12):
            machine, other = some_machines(random, 2)
            for road in all_roads(3):
                self.check(machine, road, other, 4)

    def test_the_empty_road(self):
        random = seeded(222)
        for _ in range(30):
            machine, other = some_machines(random, 2)
            self.assertEqual(self.check(machine, "", other), least(other))

    def test_one_turn(self):
        random = seeded(223)
        for _ in range(40):
            machine, other = some_machines(random, 2)
            self.check(machine, "L", other)
            self.check(machine, "R", other)

    def test_sixty_turns(self):
        random = seeded(224)
        roads = ["L" * 60, "R" * 60, "L" * 59 + "R", "R" * 59 + "L", "L" * 30 + "R" * 30, "LR" * 30]
        for road in roads + [random_road(random, 60) for _ in range(4)]:
            for machine, other in [some_machines(random, 2), (DOUBLE, HALF), (PLAIN, SWAP)]:
                self.check(machine, road, other, 3)

    def test_the_machine_itself(self):
        random = seeded(225)
        for machine in some_machines(random, 25) + [DOUBLE, SWAP]:
            for road in ("", "L", "RRL", random_road(random, 20)):
                self.assertEqual(self.check(machine, road, machine), least(machine))

    def test_twice(self):
        random = seeded(226)
        for _ in range(20):
            machine, other, third = some_machines(random, 3)
            inner = self.check(machine, "RL", other)
            answer = self.check(inner, "RLL", third)
            self.check(answer, "R", machine)
            self.assertEqual(cut_in(cut_in(machine, "L", other), "R", third),
                             cut_in(cut_in(machine, "R", third), "L", other))

    def test_machines_of_maps(self):
        random = seeded(227)
        for size in (-12, -5, 2, 7, 12):
            one, other = random_map_of_size(random, 30, size), random_map_of_size(random, 30, -size)
            answer = self.check(machine_of(one), "LRR", machine_of(other), 4)
            for road in all_roads(5):
                self.assertEqual(run(answer, road), road_moved(other if road.startswith("LRR") else one, road))


if __name__ == "__main__":
    unittest.main()
