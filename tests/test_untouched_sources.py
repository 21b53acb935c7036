"""Promise 2, for sources, rates, guesses and tables."""

import unittest
from copy import deepcopy

from leftroads import compare, guesses, machines, rates, sources, tables, waits
from leftroads.errors import InvalidMachine
from leftroads.guesses import fitting, parting, told_back
from leftroads.maps import machine_of
from leftroads.sources import first_source, misses, undone
from leftroads.tables import machine_from, table_of
from tests.kept import Kept
from tests.made import some_machines
from tests.plain import all_roads, seeded
from tests.turning import ALONG, EXCHANGED, GROWING, HELD, PLAIN, SECOND_FIRST

MACHINES = [PLAIN, HELD, SECOND_FIRST, ALONG, EXCHANGED, GROWING[0], machine_of((2, 0, 0, 1)), machine_of((0, 1, 3, 0))]
MACHINES += some_machines(seeded(1101), 6, states=4, most=2)
COURSES = [("", "RL"), ("LR", "LLRLLR"), ("L", "R"), ("RLRL", "L")]
ONE_MACHINE = [
    (sources.first_source, ""), (sources.first_source, "RLL"), (sources.number_of_sources, "LR"),
    (sources.number_of_sources, "R"), (sources.misses,), (sources.undone,), (rates.rates,), (rates.slowest,),
    (rates.fastest,), (tables.table_of, 0), (tables.table_of, 4)] + [
    (function, told) for function in (sources.course_source, rates.rate) for told in COURSES]
SEEN = [((1, 1), (2, 1)), ((1, 2), (1, 1)), ((3, 1), (6, 1)), ((5, 2), (5, 1))]
MAPS = [(2, 0, 0, 1), (1, 1, 0, 1), (0, 1, 1, 0), (1, 0, 0, 2)]


class Untouched(Kept, unittest.TestCase):

    def all_calls(self):
        """All questions, with lists that are the caller's own."""
        calls = [(function, [deepcopy(machine), *passed]) for machine in MACHINES for function, *passed in ONE_MACHINE]
        calls += [(guesses.fitting, [SEEN[:many], most]) for many in range(5) for most in (0, 2, 4)]
        calls += [(guesses.told_back, [seen]) for seen in (SEEN[:3], SEEN[:], SEEN[:3] + [((7, 1), (7, 2))])]
        calls += [(guesses.parting, [MAPS[:many]]) for many in range(5)]
        calls += [(tables.machine_from, [table_of(machine, 2 * most - 1), most])
                  for machine in MACHINES for most in (1, 2, 3)]
        return calls

    def test_a_machine_whose_list_was_changed_is_read_anew(self):
        for function, *passed in ONE_MACHINE:
            for machine, other in zip(MACHINES, MACHINES[1:] + MACHINES[:1]):
                own = deepcopy(machine)
                function(own, *passed)
                own[1][:] = other[1]
                self.assertEqual(function(own, *passed), function((machine[0], list(other[1])), *passed))

    def test_one_state_changed_in_place(self):
        own = deepcopy(EXCHANGED)
        self.assertEqual([first_source(own, "LL"), misses(own), undone(own)], ["RL", None, EXCHANGED])
        own[1][0] = (("R", 1), ("LL", 1), "")
        self.assertEqual([first_source(own, "LL"), misses(own), undone(own)], ["R", "L", None])
        own[1][0] = (("R", 1), ("L", 2), "")
        with self.assertRaises(InvalidMachine) as caught:
            misses(own)
        own[1][0] = EXCHANGED[1][0]
        self.assertEqual(undone(own), EXCHANGED)
        self.assertEqual(caught.exception.value[1][0], (("R", 1), ("L", 2), ""))

    def test_a_list_of_pairs_that_was_changed_is_read_anew(self):
        seen = SEEN[:3]
        self.assertEqual(told_back(seen), (2, 0, 0, 1))
        self.assertEqual(fitting(seen, 2), [(2, 0, 0, 1)])
        seen[2] = ((3, 1), (5, 1))
        self.assertNotEqual(told_back(seen), (2, 0, 0, 1))
        self.assertEqual(fitting(seen, 2), [])
        seen[:] = [(each, each) for each, _ in SEEN]
        self.assertEqual(told_back(seen), (1, 0, 0, 1))
        seen.clear()
        self.assertEqual(len(fitting(seen, 1)), 6)

    def test_a_list_of_maps_that_was_changed_is_read_anew(self):
        maps = [(2, 0, 0, 1), (1, 1, 0, 1)]
        self.assertEqual(parting(maps), (1, 2))
        maps[1] = (1, 0, 0, 1)
        self.assertEqual(parting(maps), (1, 1))
        maps.clear()
        self.assertEqual(parting(maps), (1, 1))

    def test_a_list_of_words_that_was_changed_is_read_anew(self):
        words = all_roads(3)
        self.assertEqual(machine_from(words, 2), PLAIN)
        words[3:] = [word + "L" for word in words[3:]]
        self.assertNotEqual(machine_from(words, 2), PLAIN)
        words[:] = ["R" + word for word in all_roads(3)]
        self.assertEqual(machine_from(words, 2), ("R", PLAIN[1]))

    def test_what_is_returned_may_be_passed_on(self):
        for machine in MACHINES:
            source = first_source(machine, "LR")
            if source is not None:
                self.assertTrue("LR".startswith(waits.surely(machine, source)))
            for told in (rates.slowest(machine), rates.fastest(machine)):
                sent = machines.run_course(machine, told)
                if sent is not None:
                    self.assertEqual(machines.run_course(machine, sources.course_source(machine, sent)), sent)
            for most in (1, 2, 3):
                back = machine_from(table_of(machine, 2 * most - 1), most)
                if back is not None:
                    self.assertEqual(table_of(back, 2 * most - 1), table_of(machine, 2 * most - 1))
                    self.assertTrue(compare.alike(back, machine) or len(machine[1]) > most)
            back = undone(machine)
            if back is not None:
                self.assertEqual(undone(back), machines.least(machine))
                self.assertIsNot(undone(back)[1], back[1])
        self.assertEqual(told_back([(each, each) for each in [parting(MAPS[:many]) for many in (1, 2)] + [(7, 3)]]),
                         (1, 0, 0, 1))


if __name__ == "__main__":
    unittest.main()
