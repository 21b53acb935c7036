"""The examples of the document, as they stand under the heads of the modules, and those of README.md."""

import doctest
import unittest
from pathlib import Path

README = Path(__file__).resolve().parent.parent / "README.md"

ROADS = """
>>> from leftroads.roads import compare, compare_courses, course, number_of, road_of, square_of, turns_of
>>> [number_of("RL"), number_of("LLR"), road_of((5, 3)), compare("R", "RL"), compare("L", "LR"), course("RL", "RLRL"), course("", "RL"), turns_of(("L", "RL"), 4)]
[(3, 2), (2, 5), 'RLR', 1, -1, ('', 'RL'), ('', 'RL'), 'LRLR']
>>> [square_of(("", "RL")), square_of(("R", "LR")), compare_courses(("", "RL"), ("R", "RL"))]
[(1, -1, -1), (1, -1, -1), -1]
"""

MAPS = """
>>> from leftroads.maps import before, behind, course_sent, fixed, least_map, machine_of, sent, size, standings, turned
>>> double, half, next_one, swap = (2, 0, 0, 1), (1, 0, 0, 2), (1, 1, 0, 1), (0, 1, 1, 0)
>>> [least_map(4, 0, 0, 2), size(double), sent(double, (3, 2)), behind(double, next_one), behind(double, half), turned(double), turned(next_one), before(next_one, (3, 2)), before(next_one, (1, 2)), standings(half)]
[(2, 0, 0, 1), 2, (3, 1), (2, 1, 0, 1), (1, 0, 0, 1), (1, 0, 0, 2), None, (1, 2), None, [(1, 0, 0, 2), (1, 1, 0, 2), (2, 0, 0, 1), (2, 0, 1, 1)]]
>>> machine_of(double)
('', [(('', 1), ('RR', 0), 'R'), (('L', 0), ('RL', 2), ''), (('LL', 2), ('', 3), 'L'), (('LR', 0), ('R', 2), '')])
>>> [machine_of(next_one), course_sent(double, ("", "RL")), fixed((2, 1, 1, 1)), fixed(swap), fixed(double), fixed((1, 0, 0, 1))]
[('R', [(('L', 0), ('R', 0), '')]), ('', 'RRRLLLLR'), [('', 'RL')], [(1, 1)], [], None]
"""


class Examples(unittest.TestCase):

    def check(self, name, text, many):
        examples = doctest.DocTestParser().get_doctest(text, {}, name, None, 0)
        results = doctest.DocTestRunner().run(examples)
        self.assertEqual((results.failed, results.attempted), (0, many))

    def test_roads(self):
        self.check("roads", ROADS, 3)

    def test_maps(self):
        self.check("maps", MAPS, 5)

    def test_readme(self):
        self.check("README.md", README.read_text(), 12)


if __name__ == "__main__":
    unittest.main()
