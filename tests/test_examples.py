"""The examples of the document, as they stand under the heads of the modules, and those of README.md."""

import doctest
import unittest
from pathlib import Path

README = Path(__file__).resolve().parent.parent / "README.md"

ROADS = """
>>> from leftroads.roads import compare, compare_courses, course, number_of, road_of, square_of, turns_of
>>> [number_of("RL"), number_of("LLR"), road_of((5, 3)), compare("R", "RL"), compare("L", "LR"), course("RL", "RLRL"), course("", "RL"), turns_of(("L", "RL"), 4)]
[(3, 2), (2, 5), 'RLR', 1, -1, ('', 'RL'), ('', 'RL'), 'LRLR']
>>> [square_of(("", "RL")), square_of(("R", "LR")), compare_courses(("", "RL"), ("R", "RL"))]
[(1, -1, -1), (1, -1, -1), -1]
"""

MAPS = """
>>> from leftroads.maps import before, behind, course_sent, fixed, least_map, machine_of, sent, size, standings, turned
>>> double, half, next_one, swap = (2, 0, 0, 1), (1, 0, 0, 2), (1, 1, 0, 1), (0, 1, 1, 0)
>>> [least_map(4, 0, 0, 2), size(double), sent(double, (3, 2)), behind(double, next_one), behind(double, half), turned(double), turned(next_one), before(next_one, (3, 2)), before(next_one, (1, 2)), standings(half)]
[(2, 0, 0, 1), 2, (3, 1), (2, 1, 0, 1), (1, 0, 0, 1), (1, 0, 0, 2), None, (1, 2), None, [(1, 0, 0, 2), (1, 1, 0, 2), (2, 0, 0, 1), (2, 0, 1, 1)]]
>>> machine_of(double)
('', [(('', 1), ('RR', 0), 'R'), (('L', 0), ('RL', 2), ''), (('LL', 2), ('', 3), 'L'), (('LR', 0), ('R', 2), '')])
>>> [machine_of(next_one), course_sent(double, ("", "RL")), fixed((2, 1, 1, 1)), fixed(swap), fixed(double), fixed((1, 0, 0, 1))]
[('R', [(('L', 0), ('R', 0), '')]), ('', 'RRRLLLLR'), [('', 'RL')], [(1, 1)], [], None]
"""

SQUARES = """
>>> from leftroads.squares import fixing, other_root, rings, roots_of, spread
>>> [roots_of((1, -1, -1)), roots_of((1, -3, 1)), roots_of((2, -3, 1)), other_root(("R", "RL")), other_root(("", "RL")), spread(("", "RL"))]
[[('', 'RL')], [('L', 'LR'), ('R', 'RL')], [(1, 2), (1, 1)], ('L', 'LR'), None, 5]
>>> [rings(5), rings(8), rings(12), rings(7), fixing(("", "RL"), 2)]
[['LR'], ['LLRR'], ['LLR', 'LRR'], [], [(1, 0, 0, 1), (1, 1, 1, 0), (2, 1, 1, 1)]]
"""

MACHINES = """
>>> from leftroads.machines import cut_in, is_least, joined, least, run, run_course
>>> from leftroads.maps import machine_of
>>> double, half = machine_of((2, 0, 0, 1)), machine_of((1, 0, 0, 2))
>>> [run(double, "RL"), run_course(double, ("", "R")), joined(double, half), least(("", [(("L", 0), ("R", 1), "L"), (("L", 1), ("R", 0), "L")])), is_least(double)]
['RR', ('', 'R'), ('', [(('L', 0), ('R', 0), '')]), ('', [(('L', 0), ('R', 0), 'L')]), True]
>>> [run(cut_in(double, "L", half), "LR"), run(cut_in(double, "L", half), "R")]
['LL', 'RRR']
"""

COMPARE = """
>>> from leftroads.compare import agree, alike, falls, first_unlike, map_of, same_written
>>> from leftroads.maps import machine_of
>>> double, half, swap = machine_of((2, 0, 0, 1)), machine_of((1, 0, 0, 2)), machine_of((0, 1, 1, 0))
>>> plain, ended = ("", [(("L", 0), ("R", 0), "")]), ("", [(("L", 0), ("R", 0), "L")])
>>> [alike(double, half), first_unlike(double, half), first_unlike(plain, ended), agree(plain, ended), map_of(half), map_of(ended), falls(double), same_written(double), same_written(ended)]
[False, '', '', True, (1, 0, 0, 2), None, None, None, None]
>>> one, other = same_written(("", [(("", 0), ("R", 0), "")]))
>>> [one != other, falls(swap) is None, falls(ended) is None]
[True, False, False]
"""

WAITS = """
>>> from leftroads.maps import machine_of
>>> from leftroads.waits import ahead, never, number_below, number_of_roads, rest_of_roads, surely, wait, writes
>>> double, plain = machine_of((2, 0, 0, 1)), ("", [(("L", 0), ("R", 0), "")])
>>> [surely(double, "RL"), surely(double, "L"), wait(double), wait(plain), ahead(plain), ahead(double), writes(double, "LL"), writes(plain, "LR")]
['RR', '', 1, 0, (0, 0), (None, None), 'LR', 'LR']
>>> [never(plain, 2), never(("", [(("L", 0), ("L", 0), "R")]), 2), number_of_roads(plain, 5, "LR"), number_of_roads(double, 2, "R"), rest_of_roads(plain, 10 ** 30, "", 7), number_below(plain, 2, (1, 1)), number_below(double, 2, (1, 1))]
[[], ['RL', 'RR'], 8, 3, 2, 2, 1]
"""

SOURCES = """
>>> from leftroads.compare import same_written
>>> from leftroads.maps import machine_of
>>> from leftroads.sources import course_source, first_source, misses, number_of_sources, undone
>>> double, half, next_one = machine_of((2, 0, 0, 1)), machine_of((1, 0, 0, 2)), machine_of((1, 1, 0, 1))
>>> [first_source(double, "RR"), number_of_sources(double, "RR"), first_source(next_one, "L"), number_of_sources(("", [(("", 0), ("R", 0), "")]), "R"), course_source(double, ("", "R")), misses(double), misses(next_one), undone(double) == half, undone(next_one)]
['RL', 1, None, None, ('', 'R'), None, '', True, None]
>>> held = ("", [(("", 1), ("", 2), ""), (("L", 1), ("RL", 3), "L"), (("L", 2), ("RR", 3), "R"), (("L", 3), ("R", 3), "")])
>>> [misses(held), same_written(held), undone(held)]
[None, None, None]
"""

RATES = """
>>> from leftroads.maps import machine_of
>>> from leftroads.rates import fastest, rate, rates, slowest
>>> double, lost = machine_of((2, 0, 0, 1)), ("", [(("", 0), ("R", 0), "")])
>>> [rate(double, ("", "R")), rate(double, ("", "RL")), rates(double), rate(lost, ("", "L")), rates(lost), rate(double, slowest(double)), rate(lost, fastest(lost))]
[(2, 1), (4, 3), ((1, 2), (2, 1)), (0, 1), ((0, 1), (1, 1)), (1, 2), (1, 1)]
"""

GUESSES = """
>>> from leftroads.guesses import fitting, parting, told_back
>>> [fitting([((1, 1), (2, 1))], 2), told_back([((1, 1), (2, 1)), ((1, 2), (1, 1)), ((3, 1), (6, 1))]), parting([(2, 0, 0, 1), (1, 1, 0, 1)]), parting([(1, 0, 0, 1)])]
[[(0, 2, 1, 0), (1, 1, 0, 1), (1, 1, 1, 0), (2, 0, 0, 1)], (2, 0, 0, 1), (1, 2), (1, 1)]
"""

TABLES = """
>>> from leftroads.maps import machine_of
>>> from leftroads.tables import machine_from, table_of
>>> double, next_one = machine_of((2, 0, 0, 1)), machine_of((1, 1, 0, 1))
>>> [table_of(double, 1), machine_from(["R", "", "RRR"], 1), machine_from(["", "L", "R"], 1), machine_from(["L", "LL", "RL"], 1), machine_from(table_of(next_one, 3), 2) == next_one]
[['R', '', 'RRR'], None, ('', [(('L', 0), ('R', 0), '')]), ('', [(('L', 0), ('R', 0), 'L')]), True]
"""

BOOKS = """
>>> from leftroads.books import book_behind, book_of, least_book, machine_of_book, sent_by, wild
>>> from leftroads.maps import machine_of
>>> fold = [("", (1, 1)), ("L", (1, 1, 1, 0)), ("R", (1, 1, 0, 1))]
>>> [sent_by(fold, (1, 3)), sent_by(fold, (3, 1)), machine_of_book(fold), book_behind(fold, fold) == fold]
[(3, 1), (3, 1), ('', [(('R', 1), ('R', 2), ''), (('R', 1), ('L', 1), ''), (('L', 2), ('R', 2), '')]), True]
>>> [book_of(machine_of((2, 0, 0, 1))), least_book([("", (2, 1)), ("L", (2, 0, 1, 1)), ("R", (2, 2, 0, 1))])]
[[('', (2, 0, 0, 1))], [('', (2, 0, 0, 1))]]
>>> [book_of(("", [(("L", 0), ("R", 0), "L")])), wild(("", [(("L", 0), ("R", 0), "L")])) is None, wild(machine_of((2, 0, 0, 1)))]
[None, False, None]
"""

READERS = """
>>> from leftroads.maps import machine_of
>>> from leftroads.readers import Reader
>>> reader = Reader(machine_of((2, 0, 0, 1)))
>>> [reader("R"), reader("L"), reader.written(), reader.road(), reader.end(), reader.undo(), reader("R"), reader.written(), reader.between(), len(reader)]
['RR', '', 'RR', 'RL', '', None, 'RL', 'RRRL', ((3, 1), (4, 1)), 3]
"""

# The examples of leftroads.texts stand under the head of leftroads.readings.
READINGS = """
>>> from leftroads.maps import machine_of
>>> from leftroads.readings import read_course, read_machine, read_map
>>> from leftroads.texts import show_course, show_machine, show_map
>>> next_one = machine_of((1, 1, 0, 1))
>>> [show_map((2, 1, 0, 3)), read_map("(2 x + 1) / (0 x + 3)"), show_machine(next_one), read_machine("R; L>0 R>0 -") == next_one, show_course(("", "RL")), read_course("R(RL)")]
['(2 x + 1) / (0 x + 3)', (2, 1, 0, 3), 'R; L>0 R>0 -', True, '(RL)', ('R', 'RL')]
"""


class Examples(unittest.TestCase):

    def check(self, name, text, many):
        examples = doctest.DocTestParser().get_doctest(text, {}, name, None, 0)
        results = doctest.DocTestRunner().run(examples)
        self.assertEqual((results.failed, results.attempted), (0, many))

    def test_roads(self):
        self.check("roads", ROADS, 3)

    def test_maps(self):
        self.check("maps", MAPS, 5)

    def test_squares(self):
        self.check("squares", SQUARES, 3)

    def test_machines(self):
        self.check("machines", MACHINES, 5)

    def test_compare(self):
        self.check("compare", COMPARE, 7)

    def test_waits(self):
        self.check("waits", WAITS, 5)

    def test_sources(self):
        self.check("sources", SOURCES, 7)

    def test_rates(self):
        self.check("rates", RATES, 4)

    def test_guesses(self):
        self.check("guesses", GUESSES, 2)

    def test_tables(self):
        self.check("tables", TABLES, 4)

    def test_books(self):
        self.check("books", BOOKS, 6)

    def test_readers(self):
        self.check("readers", READERS, 4)

    def test_readings(self):
        self.check("readings", READINGS, 5)

    def test_readme(self):
        self.check("README.md", README.read_text(), 64)


if __name__ == "__main__":
    unittest.main()
