"""Promise 2: integers are no booleans, nothing is kept, and every list that is returned is new."""

import unittest
from copy import deepcopy

from leftroads import maps, roads
from leftroads.maps import fixed, machine_of, standings
from leftroads.roads import course, square_of, turns_of
from tests.plain import parts

MAPS = [(2, 0, 0, 1), (1, 0, 0, 2), (1, 1, 0, 1), (0, 1, 1, 0), (5, 3, 1, 3), (2, 1, 1, 1), (1, 2, 1, 0)]
COURSES = [("", "RL"), ("L", "RLRL"), ("LLR", "RRLRRL")]
CALLS = [
    (roads.number_of, ["RLLR"]), (roads.road_of, [(5, 3)]), (roads.compare, ["R", "RL"]),
    (roads.course, ["RL", "RLRL"]), (roads.compare_courses, [("", "RL"), ("R", "LLR")]),
    (roads.turns_of, [("L", "RL"), 4]), (roads.square_of, [("R", "LLR")]), (maps.least_map, [4, 0, 0, 2])]
CALLS += [
    (function, [one]) for one in MAPS
    for function in (maps.size, maps.turned, maps.machine_of, maps.standings, maps.fixed)]
CALLS += [(function, [one, (3, 2)]) for one in MAPS for function in (maps.sent, maps.before)]
CALLS += [(maps.behind, [one, other]) for one in MAPS for other in MAPS]
CALLS += [(maps.course_sent, [one, told]) for one in MAPS for told in COURSES]


class Untouched(unittest.TestCase):

    def test_what_is_passed_stays_as_it_is(self):
        for function, passed in CALLS:
            kept = deepcopy(passed)
            function(*passed)
            self.assertEqual(passed, kept)

    def test_the_same_call_has_the_same_answer(self):
        answers = [deepcopy(function(*passed)) for function, passed in CALLS]
        self.assertEqual([function(*passed) for function, passed in reversed(CALLS)], answers[::-1])

    def test_what_is_returned_is_of_plain_kinds(self):
        for function, passed in CALLS:
            for part in parts(function(*passed)):
                self.assertIn(type(part), (int, str, list, tuple, type(None)), function.__name__)

    def test_no_list_is_returned_twice_or_stands_in_two_places(self):
        kept = [function(*passed) for function, passed in CALLS for _ in range(2)]
        lists = [part for value in kept for part in parts(value) if isinstance(part, list)]
        self.assertEqual(len({id(each) for each in lists}), len(lists))

    def test_a_list_that_the_caller_changes_changes_no_later_answer(self):
        for one in MAPS:
            before = deepcopy([machine_of(one), standings(one), fixed(one)])
            rows = machine_of(one)[1]
            rows[0] = (("RRR", 0), ("LLL", 0), "RL")
            rows.append(rows[0])
            found = standings(one)
            found.reverse()
            found.append((9, 9, 9, 8))
            found[0] = None
            fixed(one).append((7, 1))
            fixed(one).clear()
            self.assertEqual([machine_of(one), standings(one), fixed(one)], before)

    def test_what_is_returned_may_be_passed_on(self):
        for one in MAPS:
            for found in fixed(one):
                if isinstance(found[0], str):
                    self.assertEqual(course(*found), found)
                    self.assertEqual(len(turns_of(found, 400)), 400)
                    self.assertLess(square_of(found)[2], 0)
            for standing in standings(one):
                self.assertEqual(maps.size(standing), maps.size(one))


if __name__ == "__main__":
    unittest.main()
