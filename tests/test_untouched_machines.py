"""Promise 2, for machines: nothing that is passed is modified or kept, and every list that is returned is new."""

import unittest
from copy import deepcopy

from leftroads import compare, machines, squares, waits
from leftroads.errors import InvalidMachine
from leftroads.machines import cut_in, joined, least, run
from leftroads.maps import machine_of
from tests.kept import Kept
from tests.made import some_machines
from tests.plain import seeded

HELD = ("", [(("", 1), ("", 2), ""), (("L", 1), ("RL", 3), "L"), (("L", 2), ("RR", 3), "R"), (("L", 3), ("R", 3), "")])
MACHINES = [machine_of((2, 0, 0, 1)), machine_of((0, 3, 1, 0)), HELD, ("", [(("", 0), ("R", 0), "")])]
MACHINES += some_machines(seeded(801), 8)
COURSES = [("", "RL"), ("LR", "LLR"), ("LLR", "RRLRRL")]
ONE_MACHINE = [
    (machines.run, "RLL"), (machines.run_course, ("L", "RL")), (machines.least,), (machines.is_least,),
    (compare.map_of,), (compare.falls,), (compare.same_written,), (waits.surely, "RL"), (waits.wait,), (waits.ahead,),
    (waits.writes, "RL"), (waits.never, 3), (waits.number_of_roads, 20, "L"),
    (waits.rest_of_roads, 10 ** 30, "RL", 10 ** 9), (waits.number_below, 30, (3, 2))]
TWO_MACHINES = [machines.joined, compare.alike, compare.first_unlike, compare.agree]
WITHOUT_MACHINES = [
    (squares.roots_of, (1, -3, 1)), (squares.roots_of, (2, -3, 1)), (squares.roots_of, (1, 0, 1)), (squares.rings, 12),
    (squares.rings, 7), (squares.rings, 985)] + [
    (function, told) for function in (squares.other_root, squares.spread) for told in COURSES] + [
    (squares.fixing, told, most) for told in COURSES for most in (0, 3, 12)]


def all_calls():
    """All questions, with machines that are the caller's own."""
    calls = [(function, list(passed)) for function, *passed in WITHOUT_MACHINES]
    for machine in MACHINES:
        calls += [(function, [deepcopy(machine), *passed]) for function, *passed in ONE_MACHINE]
        for other in MACHINES[:4]:
            calls += [(function, [deepcopy(machine), deepcopy(other)]) for function in TWO_MACHINES]
            calls += [(cut_in, [deepcopy(machine), road, deepcopy(other)]) for road in ("", "L", "RRL")]
    return calls


class Untouched(Kept, unittest.TestCase):

    answered_by_yes_or_no = (machines.is_least, compare.alike, compare.agree)

    def all_calls(self):
        return all_calls()

    def test_one_list_in_both_places_stays_as_it_is(self):
        for machine in MACHINES:
            own = deepcopy(machine)
            for function in TWO_MACHINES:
                self.assertEqual(function(own, own), function(own, deepcopy(own)))
            self.assertEqual(cut_in(own, "RL", own), least(own))
            self.assertEqual(own, machine)

    def test_the_least_form_of_a_least_form_is_a_new_one(self):
        for machine in MACHINES:
            form = least(machine)
            again = least(form)
            self.assertEqual(again, form)
            self.assertIsNot(again[1], form[1])
            self.assertIsNot(cut_in(machine, "", form)[1], form[1])
            self.assertIsNot(joined(form, form)[1], form[1])

    def test_a_machine_whose_list_was_changed_is_read_anew(self):
        for function, *passed in ONE_MACHINE:
            for machine, other in zip(MACHINES, MACHINES[1:] + MACHINES[:1]):
                own = deepcopy(machine)
                function(own, *passed)
                own[1][:] = other[1]
                self.assertEqual(function(own, *passed), function((machine[0], list(other[1])), *passed))

    def test_it_is_read_anew_in_both_places(self):
        for function in TWO_MACHINES:
            for machine, other in zip(MACHINES, MACHINES[1:] + MACHINES[:1]):
                own, third = deepcopy(machine), deepcopy(HELD)
                function(own, third), function(third, own)
                own[1][:] = other[1]
                fresh = (machine[0], list(other[1]))
                self.assertEqual(function(own, third), function(fresh, third))
                self.assertEqual(function(third, own), function(third, fresh))

    def test_a_machine_that_was_wrong_is_read_anew(self):
        own = deepcopy(HELD)
        kept = own[1][1]
        own[1][1] = (("L", 1), ("RL", 4), "L")
        with self.assertRaises(InvalidMachine) as caught:
            run(own, "LR")
        own[1][1] = kept
        self.assertEqual(run(own, "LR"), run(HELD, "LR"))
        self.assertEqual(caught.exception.value[1][1], (("L", 1), ("RL", 4), "L"))
        own[1].append((("X", 0), ("", 0), ""))
        with self.assertRaises(InvalidMachine):
            run(own, "LR")
        self.assertEqual(len(caught.exception.value[1]), 4)

    def test_what_is_returned_may_be_passed_on(self):
        for machine in MACHINES:
            form = joined(joined(machine, machine), HELD)
            for function, *passed in ONE_MACHINE:
                function(form, *passed)
            for function in TWO_MACHINES:
                function(form, least(machine))
                function(cut_in(form, "LL", machine), form)
            pair = compare.falls(machine)
            if pair is not None:
                self.assertEqual([run(machine, road) for road in pair], [run(least(machine), road) for road in pair])


if __name__ == "__main__":
    unittest.main()
