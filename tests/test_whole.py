"""Promises 1 to 10 over the whole program: what one module returns is passed on to the others."""

import unittest
from copy import deepcopy
from fractions import Fraction
from math import gcd, isqrt

from leftroads.books import book_behind, book_of, least_book, machine_of_book, sent_by, wild
from leftroads.compare import agree, alike, falls, first_unlike, map_of, same_written
from leftroads.guesses import fitting, parting, told_back
from leftroads.machines import cut_in, is_least, joined, least, run, run_course
from leftroads.maps import (
    before, behind, course_sent, fixed, least_map, machine_of, sent, size, standings, turned)
from leftroads.rates import fastest, rate, rates, slowest
from leftroads.readers import Reader
from leftroads.readings import read_course, read_machine, read_map
from leftroads.roads import compare, compare_courses, course, number_of, road_of, square_of, turns_of
from leftroads.sources import course_source, first_source, misses, number_of_sources, undone
from leftroads.squares import fixing, other_root, rings, roots_of, spread
from leftroads.tables import machine_from, table_of
from leftroads.texts import show_course, show_machine, show_map
from leftroads.waits import ahead, never, number_below, number_of_roads, rest_of_roads, surely, wait, writes
from tests.made import late, random_machine, some_machines, with_one_change
from tests.plain import (
    all_maps, all_roads, measure, moved, random_fraction, random_map_of_size, random_road, seeded, told, turning_rings)
from tests.shelves import exchanging_book, parted, random_book
from tests.turning import GROWING, HELD, ONE_TO_ONE, PLAIN, SECOND_FIRST, random_letters, random_tree_pair

SIZES = [number for number in range(-12, 13) if number != 0]
SMALL = [-4, -3, -2, -1, 1, 2, 3, 4]


def map_answers(one, other, fraction, told_course):
    return [
        least_map(*one), size(one), sent(one, fraction), behind(one, other), turned(one), before(one, fraction),
        machine_of(one), standings(one), course_sent(one, told_course), fixed(one), show_map(one),
        read_map(show_map(one)), road_of(sent(one, (3, 2))), parting([one, other] if one != other else [one]),
        told_back([(each, sent(one, each)) for each in ((1, 2), (1, 1), (2, 1))]),
        fitting([((1, 1), sent(one, (1, 1)))], 2)]


def machine_answers(machine, road, told_course):
    return [
        run(machine, road), run_course(machine, told_course), least(machine), is_least(machine), map_of(machine),
        falls(machine), same_written(machine), surely(machine, road), wait(machine), ahead(machine),
        writes(machine, road[:3]), never(machine, 3), number_of_roads(machine, 12, road[:2]),
        rest_of_roads(machine, 10 ** 20, road[:2], 10 ** 9), number_below(machine, 12, (3, 2)),
        first_source(machine, road), number_of_sources(machine, road), course_source(machine, told_course),
        rate(machine, told_course), rates(machine), slowest(machine), fastest(machine), table_of(machine, 3),
        machine_from(table_of(machine, 3), 2), book_of(machine), wild(machine), show_machine(machine),
        read_machine(show_machine(machine)), led(machine, road)] + (
            [misses(machine), undone(machine)] if is_small(machine) else [])


def is_small(machine):
    words = [word for left, right, end in machine[1] for word in (left[0], right[0], end)]
    return len(machine[1]) <= 4 and max(map(len, words)) <= 2


def led(machine, road):
    """All that a reader tells of a road."""
    reader = Reader(machine)
    answers = [reader.written(), reader.between()]
    for turn in road:
        answers += [reader(turn), reader.between(), len(reader)]
    answers += [reader.end(), reader.written(), reader.road(), reader == Reader(machine)]
    reader.undo()
    return answers + [reader.written(), reader.between()]


def two_answers(one, other, road):
    return [joined(one, other), cut_in(one, road, other), alike(one, other), first_unlike(one, other),
            agree(one, other)]


def book_answers(book, other, fraction):
    return [
        machine_of_book(book), sent_by(book, fraction), least_book(book), book_behind(book, other),
        book_behind(other, book)]


class Sequence(unittest.TestCase):

    def test_all_questions_in_one_sequence(self):
        random = seeded(1701)
        machines = some_machines(random, 6, states=3, most=2) + [deepcopy(HELD), deepcopy(SECOND_FIRST)]
        maps = [random_map_of_size(random, 12, size) for size in (-3, 2, 5, 1)]
        books = [random_book(random, leaves, sizes=[-2, -1, 1, 2, 3]) for leaves in (1, 3, 5)]
        courses = [("", "RL"), ("L", "RRL"), ("RLL", "LLRR")]
        asked_for = []

        def ask(question, *passed):
            """What was passed is kept as it is now, to be made anew at the end."""
            asked_for.append((question, deepcopy(passed), deepcopy(question(*passed))))

        for turn in range(40):
            one, other = random.choice(maps), random.choice(maps)
            machine, second = random.choice(machines), random.choice(machines)
            book, second_book = random.choice(books), random.choice(books)
            told_course, road = random.choice(courses), random_road(random, random.randint(0, 5))
            ask(map_answers, one, other, random_fraction(random, 20), told_course)
            ask(machine_answers, machine, road, told_course)
            ask(two_answers, machine, second, road)
            ask(book_answers, book, second_book, random_fraction(random, 20))
            self.pass_on(random, machines, maps, books, courses)
            self.change(random, machines, books)
        for question, passed, answer in reversed(asked_for):
            self.assertEqual(question(*passed), answer)

    def pass_on(self, random, machines, maps, books, courses):
        """Put what was returned among what is asked about."""
        machine, book = random.choice(machines), random.choice(books)
        made = random.choice([
            lambda: least(machine), lambda: machine_of_book(book), lambda: machine_of(random.choice(maps)),
            lambda: joined(machine, random.choice(machines)), lambda: cut_in(machine, "RL", random.choice(machines)),
            lambda: machine_from(table_of(machine, 3), 2), lambda: read_machine(show_machine(machine))])()
        if made is not None and len(made[1]) <= 10:
            machines[random.randrange(len(machines))] = made
        found = book_of(machine)
        if found is not None and len(found) <= 15:
            books[random.randrange(len(books))] = found
        for each in (run_course(machine, random.choice(courses)), slowest(machine), wild(machine)):
            if each is not None and len(each[1]) <= 6 and len(set(each[1])) == 2:
                courses[random.randrange(len(courses))] = each
        one = behind(random.choice(maps), random.choice(maps))
        if abs(size(one)) <= 12 and max(one) <= 60:
            maps[random.randrange(len(maps))] = one

    def change(self, random, machines, books):
        """Change lists in place that were passed, or that were returned."""
        machine, book = random.choice(machines), random.choice(books)
        rows = machine[1]
        at = random.randrange(len(rows))
        rows[at] = random_machine(random, len(rows), 2)[1][0]
        if random.random() < 0.3:
            rows.append(rows[0])
        at = random.randrange(len(book))
        road, value = book[at]
        if len(value) == 2:
            book[at] = (road, (value[1], value[0]))
        elif len(road) < 3 and len(book) < 9:
            book[:] = parted(book, road)
        else:
            book[at] = (road, (value[1], value[0], value[3], value[2]))


class Courses(unittest.TestCase):

    def test_courses_and_their_squares(self):
        for ring in turning_rings(5):
            for way in ("", "L", "RR", "LR"):
                told_course = course(way, ring)
                a, b, c = square_of(told_course)
                self.assertEqual(told_course[0] == "", c < 0)
                self.assertIn(told_course, roots_of((a, b, c)))
                self.assertEqual(spread(told_course), b * b - 4 * a * c)
                other = other_root(told_course)
                expected = [told_course] if other is None else sorted([told_course, other],
                                                                      key=lambda each: turns_of(each, 60))
                self.assertEqual(roots_of((a, b, c)), expected)
                self.assertEqual(read_course(show_course(told_course)), told_course)
                for one in fixing(told_course, 3):
                    self.assertEqual(course_sent(one, told_course), told_course)
                    self.assertIn(fixed(one), ([told_course], None))
                    self.assertEqual(run_course(machine_of(one), told_course), told_course)

    def test_rings_and_the_squares_of_a_number(self):
        for number in range(2, 200):
            if isqrt(number) ** 2 != number:
                many = 0
                for b in range(-isqrt(number), isqrt(number) + 1):
                    for a in range(1, number):
                        c, rest = divmod(b * b - number, 4 * a)
                        if rest == 0 and c < 0 and gcd(a, b, c) == 1:
                            many += 1
                found = rings(number)
                self.assertEqual(sum(map(len, found)), many)
                for ring in found:
                    self.assertEqual(spread(("", ring)), number)
                    self.assertEqual(spread(("LLR", ring)), number)

    def test_maps_and_machines_send_courses_alike(self):
        random = seeded(1711)
        for size_told in SIZES:
            one = random_map_of_size(random, 20, size_told)
            machine = machine_of(one)
            for told_course in [("", "LR"), ("R", "LLR"), ("LRR", "RRLRLL")]:
                found = course_sent(one, told_course)
                self.assertEqual(run_course(machine, told_course), found)
                self.assertEqual(course_source(machine, found), course(*told_course))
                lower = compare_courses(told_course, ("", "RL"))
                moved_lower = compare_courses(found, course_sent(one, ("", "RL")))
                self.assertEqual(moved_lower, lower if size_told > 0 else -lower)

    def test_a_machine_that_never_waits_without_end_writes_endless_many_turns(self):
        seen = set()
        for machine in some_machines(seeded(1712), 60, states=4, most=2):
            waits = wait(machine) is None
            seen.add(waits)
            self.assertEqual(waits, rates(machine)[0] == (0, 1))
            self.assertEqual(waits, run_course(machine, slowest(machine)) is None)
            for ring in all_roads(3)[1:]:
                if not waits:
                    self.assertIsNotNone(run_course(machine, ("L", ring)))
        self.assertEqual(seen, {True, False})


class Maps(unittest.TestCase):

    def maps(self, number, sizes=SIZES):
        random = seeded(number)
        return [one for one in all_maps(2) if measure(one) in sizes] + [
            random_map_of_size(random, 60, each) for each in sizes for _ in range(2)]

    def test_what_is_promised_of_the_machine_of_a_map(self):
        for one in self.maps(1721):
            machine, number = machine_of(one), abs(size(one))
            self.assertTrue(is_least(machine))
            self.assertEqual(map_of(machine), one)
            self.assertEqual(len(machine[1]), len(standings(one)))
            self.assertEqual(wait(machine), number - 1)
            lengths = [len(word) for row in machine[1] for word, _ in row[:2]]
            self.assertEqual(max(lengths), number)
            self.assertLess(max(len(row[2]) for row in machine[1]), number)
            self.assertEqual(rates(machine), ((1, number), (number, 1)))
            self.assertEqual(falls(machine) is None, size(one) > 0)
            self.assertIsNone(same_written(machine))
            self.assertEqual(book_of(machine), [("", one)])
            self.assertIsNone(wild(machine))
            for road in all_roads(3):
                self.assertEqual(number_of(run(machine, road)), sent(one, number_of(road)))
                self.assertEqual(sent_by([("", one)], number_of(road)), sent(one, number_of(road)))

    def test_it_is_undone_exactly_if_the_map_is(self):
        for one in self.maps(1722, SMALL):
            machine, back = machine_of(one), turned(one)
            self.assertEqual(undone(machine), None if back is None else machine_of(back))
            self.assertEqual(misses(machine) is None, back is not None)
            if back is not None:
                self.assertEqual(behind(one, back), (1, 0, 0, 1))
                self.assertEqual(book_behind([("", one)], [("", back)]), [("", (1, 0, 0, 1))])

    def test_a_map_sends_to_just_the_numbers_between_two(self):
        for one in self.maps(1723):
            a, b, c, d = one
            machine = machine_of(one)
            for road in all_roads(4):
                above, below = number_of(road)
                inside = (a * below - above * c) * (d * above - b * below) > 0
                self.assertEqual(before(one, (above, below)) is not None, inside)
                source = first_source(machine, road)
                self.assertEqual(source is not None, inside)
                self.assertEqual(number_of_sources(machine, road), 1 if inside else 0)
                if inside:
                    self.assertEqual(number_of(source), before(one, (above, below)))

    def test_order(self):
        random = seeded(1724)
        for one in self.maps(1725):
            machine = machine_of(one)
            for _ in range(10):
                road, other = random_road(random, random.randint(0, 8)), random_road(random, random.randint(0, 8))
                answer = compare(run(machine, road), run(machine, other))
                self.assertEqual(answer, compare(road, other) * (1 if size(one) > 0 else -1))

    def test_two_maps_are_alike_only_if_they_are_the_same(self):
        maps = self.maps(1726, SMALL)
        for one, other in zip(maps, maps[1:] + maps[:1]):
            self.assertEqual(alike(machine_of(one), machine_of(other)), one == other)
            if one != other:
                self.assertNotEqual(sent(one, parting([one, other])), sent(other, parting([one, other])))

    def test_a_map_is_told_by_three_roads(self):
        random = seeded(1727)
        for one in self.maps(1728):
            machine = machine_of(one)
            roads = random.sample(all_roads(4), 3)
            seen = [(number_of(road), number_of(run(machine, road))) for road in roads]
            self.assertEqual(told_back(seen), one)
            if max(one) <= 4:
                self.assertEqual(fitting(seen, 4), [one])

    def test_one_map_behind_another(self):
        random = seeded(1729)
        for one_size, other_size in [(2, 3), (-2, 5), (4, -3), (-1, -6), (1, 12)]:
            one, other = random_map_of_size(random, 12, one_size), random_map_of_size(random, 12, other_size)
            both = behind(one, other)
            machine = joined(machine_of(one), machine_of(other))
            self.assertEqual(map_of(machine), both)
            self.assertEqual(book_of(machine), book_behind([("", one)], [("", other)]))
            for fraction in ((1, 1), (3, 2), (2, 9)):
                self.assertEqual(sent(both, fraction), sent(other, sent(one, fraction)))

    def test_roads_counted_by_what_they_are_sent_to(self):
        for one in [(2, 0, 0, 1), (0, 1, 1, 0), (1, 1, 1, 2), (3, 1, 0, 1)]:
            machine = machine_of(one)
            for length in range(6):
                roads = all_roads(length)[2 ** length - 1:]
                numbers = [sent(one, number_of(road)) for road in roads]
                for fraction in ((1, 1), (3, 2), (1, 4)):
                    below = [each for each in numbers if Fraction(*each) < Fraction(*fraction)]
                    self.assertEqual(number_below(machine, length, fraction), len(below))
                for word in all_roads(2):
                    many = [road for road in roads if run(machine, road).startswith(word)]
                    self.assertEqual(number_of_roads(machine, length, word), len(many))
                    self.assertEqual(rest_of_roads(machine, length, word, 7), len(many) % 7)


class Machines(unittest.TestCase):

    def test_two_machines_that_write_the_same_for_all_short_roads_are_alike(self):
        random = seeded(1731)
        seen = set()
        for machine in some_machines(random, 150, states=3, most=2):
            other = with_one_change(random, machine)
            length = len(machine[1]) + len(other[1]) - 1
            same = table_of(machine, length) == table_of(other, length)
            seen.add(same)
            self.assertEqual(alike(machine, other), same)
            self.assertEqual(first_unlike(machine, other) is None, same)
            self.assertEqual(show_machine(least(machine)) == show_machine(least(other)), same)
            self.assertEqual(Reader(machine) == Reader(other), same)
            self.assertEqual(machine_from(table_of(machine, 5), 3) == least(other), same)
        self.assertEqual(seen, {True, False})

    def test_a_machine_is_undone_only_if_it_misses_no_road_and_writes_none_twice(self):
        random = seeded(1732)
        machines = ONE_TO_ONE + [HELD] + some_machines(random, 60, states=4, most=2)
        machines += [random_letters(random, 3) for _ in range(10)] + [random_tree_pair(random, 3) for _ in range(10)]
        for machine in machines:
            back = undone(machine)
            if back is not None:
                self.assertIsNone(misses(machine))
                self.assertIsNone(same_written(machine))
                self.assertEqual(joined(machine, back), PLAIN)
                self.assertEqual(joined(back, machine), PLAIN)
                self.assertEqual(undone(back), least(machine))
                self.assertEqual(first_source(machine, "LRL"), run(back, "LRL"))
                self.assertEqual(course_source(machine, ("", "LR")), run_course(back, ("", "LR")))
        self.assertEqual([misses(HELD), same_written(HELD), undone(HELD)], [None, None, None])

    def test_what_is_taken_back_has_a_book_if_it_has_one(self):
        random = seeded(1733)
        for _ in range(12):
            there, back = exchanging_book(random, random.randint(1, 4))
            machine = machine_of_book(there)
            if len(machine[1]) <= 4:
                self.assertEqual(book_of(undone(machine)), least_book(back))
        for machine in GROWING:
            self.assertEqual(book_of(machine) is None, book_of(undone(machine)) is None)

    def test_joined_machines_with_books_have_one(self):
        random = seeded(1734)
        for _ in range(12):
            one, other = [random_book(random, random.randint(1, 4), sizes=[-2, -1, 1, 2]) for _ in range(2)]
            both = joined(machine_of_book(one), machine_of_book(other))
            self.assertIsNone(wild(both))
            self.assertEqual(book_of(both), book_behind(one, other))
            self.assertEqual(first_unlike(both, late(machine_of_book(book_behind(one, other)))), None)
            for road in all_roads(4):
                self.assertEqual(number_of(run(both, road)), sent_by(other, sent_by(one, number_of(road))))

    def test_books_and_maps(self):
        random = seeded(1735)
        for book in [random_book(random, random.randint(1, 6)) for _ in range(12)]:
            machine = machine_of_book(book)
            for road, value in least_book(book):
                if len(value) == 4:
                    rest = random_road(random, 6)
                    self.assertEqual(number_of(run(machine, road + rest)), moved(value, told(rest)))
                    self.assertEqual(read_map(show_map(value)), value)
            self.assertEqual(map_of(machine) is None, len(least_book(book)) > 1)
            course_of_maps = run_course(machine, ("", "LLRR"))
            self.assertEqual(compare_courses(course_of_maps, course_of_maps), 0)

    def test_readers_and_what_is_sure(self):
        for machine in some_machines(seeded(1736), 25) + [machine_of((12, 5, 0, 1))]:
            reader = Reader(machine)
            for turn in "LRRLLRLR":
                reader(turn)
                self.assertEqual(reader.written(), surely(machine, reader.road()))
                low, high = reader.between()
                above, below = number_of(run(machine, reader.road() + "LR"))
                self.assertGreater(above * low[1], low[0] * below)
                if high is not None:
                    self.assertLess(above * high[1], high[0] * below)
            reader.end()
            self.assertEqual(reader.written(), run(machine, reader.road()))


if __name__ == "__main__":
    unittest.main()
