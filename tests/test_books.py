"""Promise 10: books, what they tell, the least ones, and which machines have one."""

import unittest
from itertools import combinations

from leftroads.books import book_behind, book_of, least_book, machine_of_book, sent_by, wild
from leftroads.compare import alike
from leftroads.machines import cut_in, is_least, joined, least, run
from leftroads.maps import behind, machine_of, turned
from tests.made import full, late, run_of_courses, some_machines, told_otherwise, with_ends
from tests.plain import (
    all_maps, all_roads, asked, endless, least_way, measure, moved, random_fraction, random_map_of_size, random_road,
    road_to, seeded, told)
from tests.shelves import (
    exchanging_book, in_order, least_found, map_done, matrix, number_sent, parted, put_behind, random_book, written_by)
from tests.turning import ALONG, COUNTED, EXCHANGED, HELD, ONE_TO_ONE, PLAIN, SECOND_FIRST, random_letters

DOUBLE, HALF, NEXT, SWAP = [machine_of(one) for one in ((2, 0, 0, 1), (1, 0, 0, 2), (1, 1, 0, 1), (0, 1, 1, 0))]
FOLD = [("", (1, 1)), ("L", (1, 1, 1, 0)), ("R", (1, 1, 0, 1))]
SAME = [("", (1, 0, 0, 1))]
ENDED = ("", [(("L", 0), ("R", 0), "L")])
SHORT = all_roads(6)


def drawn_books(number, many, most=8):
    random = seeded(number)
    return [random_book(random, random.randint(1, most)) for _ in range(many)]


def in_parts(random, book, many):
    """The same book with maps told by several entries, in so many places."""
    for _ in range(many):
        roads = [road for road, value in book if len(value) == 4 and len(road) < 4]
        if roads:
            book = parted(book, random.choice(roads))
    return book


class SentBy(unittest.TestCase):

    def test_every_entry(self):
        for book in drawn_books(1201, 40):
            for road, value in book:
                answer = asked(sent_by, book=book, fraction=told(road))
                self.assertEqual(answer, value if len(value) == 2 else moved(value, (1, 1)))

    def test_all_short_roads(self):
        for book in drawn_books(1202, 30):
            for road in SHORT:
                self.assertEqual(road_to(sent_by(book, told(road))), written_by(book, road))

    def test_roads_that_go_on_behind_a_map(self):
        random = seeded(1203)
        for book in drawn_books(1204, 30):
            for road, value in book:
                if len(value) == 4:
                    rest = random_road(random, 20)
                    self.assertEqual(sent_by(book, told(road + rest)), moved(value, told(rest)))

    def test_drawn_fractions(self):
        random = seeded(1205)
        for book in drawn_books(1206, 40):
            for greatest in (10, 1000, 10 ** 9):
                for _ in range(5):
                    fraction = random_fraction(random, greatest)
                    self.assertEqual(asked(sent_by, book=book, fraction=fraction), number_sent(book, fraction))

    def test_fractions_with_very_long_roads(self):
        great = 10 ** 9
        for book in drawn_books(1207, 30) + [FOLD, SAME]:
            for fraction in [(great, 1), (1, great), (great, great - 1), (great - 1, great), (great - 1, 2),
                             (3, great)]:
                self.assertEqual(sent_by(book, fraction), number_sent(book, fraction))
        self.assertEqual(sent_by(FOLD, (1, great)), (great, 1))
        self.assertEqual(sent_by(SAME, (1, great)), (1, great))

    def test_some(self):
        self.assertEqual([sent_by(FOLD, each) for each in [(1, 1), (1, 2), (2, 1), (2, 3), (3, 2)]],
                         [(1, 1), (2, 1), (2, 1), (3, 2), (3, 2)])
        book = [("", (7, 5)), ("L", (2, 0, 0, 1)), ("R", (1, 60)), ("RL", (1, 0, 0, 3)), ("RR", (0, 1, 1, 0))]
        self.assertEqual([sent_by(book, told(road)) for road in ("", "L", "LR", "R", "RL", "RR", "RRR")],
                         [(7, 5), (2, 1), (4, 1), (1, 60), (1, 3), (1, 1), (1, 2)])


class MachineOfBook(unittest.TestCase):

    def test_drawn_books(self):
        for book in drawn_books(1211, 40):
            machine = asked(machine_of_book, book=book)
            self.assertTrue(is_least(machine))
            for road in SHORT:
                self.assertEqual(full(machine, road), written_by(book, road))

    def test_long_roads(self):
        random = seeded(1212)
        for book in drawn_books(1213, 20):
            machine = machine_of_book(book)
            for _ in range(5):
                road = random_road(random, 60)
                self.assertEqual(full(machine, road), written_by(book, road))
                self.assertEqual(told(full(machine, road)), sent_by(book, told(road)))

    def test_a_book_of_one_map(self):
        for one in [one for one in all_maps(3) if abs(measure(one)) <= 6]:
            self.assertEqual(machine_of_book([("", one)]), machine_of(one))

    def test_books_that_tell_what_is_sure_before_a_map(self):
        book = [("", (3, 2)), ("L", (1, 2, 1, 1)), ("R", (5, 3, 3, 2))]
        machine = machine_of_book(book)
        self.assertTrue(machine[0].startswith("R"))
        self.assertTrue(is_least(machine))
        for road in SHORT:
            self.assertEqual(full(machine, road), written_by(book, road))

    def test_fractions_with_long_roads(self):
        random = seeded(1214)
        for _ in range(10):
            book = [("", told(random_road(random, 60))), ("L", (2, 0, 0, 1)), ("R", told("R" * 60)),
                    ("RL", (0, 1, 1, 0)),
                    ("RR", (1, 0, 0, 1))]
            machine = machine_of_book(book)
            for road in all_roads(4):
                self.assertEqual(full(machine, road), written_by(book, road))
            self.assertEqual(book_of(machine), book)

    def test_parted_books_have_the_same_machine(self):
        random = seeded(1215)
        for book in drawn_books(1216, 30, most=4):
            self.assertEqual(machine_of_book(in_parts(random, book, 3)), machine_of_book(book))

    def test_books_that_exchange_trees_are_taken_back(self):
        random = seeded(1217)
        for _ in range(20):
            there, back = exchanging_book(random, random.randint(1, 6))
            machine, machine_back = machine_of_book(there), machine_of_book(back)
            self.assertEqual(joined(machine, machine_back), PLAIN)
            self.assertEqual(joined(machine_back, machine), PLAIN)


class LeastBook(unittest.TestCase):

    def check(self, book):
        answer = asked(least_book, book=book)
        self.assertEqual(answer, least_found(book))
        self.assertEqual(least_book(answer), answer)
        for road in all_roads(5):
            self.assertEqual(written_by(answer, road), written_by(book, road))
        return answer

    def test_drawn_books(self):
        for book in drawn_books(1221, 60):
            self.check(book)

    def test_books_that_are_parted_without_need(self):
        random = seeded(1222)
        for book in drawn_books(1223, 80, most=4):
            least_one = self.check(book)
            for many in range(1, 5):
                other = in_parts(random, book, many)
                self.assertEqual(self.check(other), least_one)

    def test_one_map_parted_as_far_as_can_be(self):
        random = seeded(1224)
        for one in [(1, 0, 0, 1), (2, 0, 0, 1), (0, 1, 1, 0), (5, 3, 1, 1), (1, 2, 3, 0)]:
            book = [("", one)]
            while len(book) < 15:
                book = in_parts(random, book, 1)
            self.assertEqual(self.check(book), [("", one)])
            # A row of entries along one road.
            for turn in "LR":
                book = [("", one)]
                for length in range(4):
                    book = parted(book, turn * length)
                self.assertEqual(self.check(book), [("", one)])

    def test_one_fraction_changed(self):
        random = seeded(1225)
        for book in drawn_books(1226, 30, most=2):
            whole = in_parts(random, book, 4)
            for at, (road, value) in enumerate(whole):
                if len(value) == 2:
                    for wrong in ((value[0] + value[1], value[1]), (value[1], value[0] + value[1])):
                        answer = self.check(whole[:at] + [(road, wrong)] + whole[at + 1:])
                        self.assertEqual(dict(answer)[road], wrong)

    def test_one_map_changed(self):
        random = seeded(1227)
        for book in drawn_books(1228, 30, most=2):
            whole = in_parts(random, book, 4)
            for at, (road, value) in enumerate(whole):
                if len(value) == 4:
                    for wrong in ((value[1], value[0], value[3], value[2]), (value[2], value[3], value[0], value[1]),
                                  random_map_of_size(random, 12, measure(value))):
                        answer = self.check(whole[:at] + [(road, wrong)] + whole[at + 1:])
                        if wrong != value and whole[at][0] != "":
                            self.assertNotEqual(answer, least_book(whole))

    def test_both_maps_close_up_but_not_the_fraction(self):
        self.assertEqual(self.check([("", (2, 1)), ("L", (2, 0, 1, 1)), ("R", (2, 2, 0, 1))]), [("", (2, 0, 0, 1))])
        for wrong in ((1, 1), (1, 2), (4, 1), (3, 2)):
            book = [("", wrong), ("L", (2, 0, 1, 1)), ("R", (2, 2, 0, 1))]
            self.assertEqual(self.check(book), book)

    def test_maps_that_close_up_to_none(self):
        for left, right in [((1, 2, 0, 1), (1, 1, 0, 1)), ((1, 0, 1, 1), (1, 0, 0, 1)), ((0, 1, 1, 0), (0, 1, 1, 0)),
                            ((2, 0, 1, 1), (2, 1, 0, 1)), ((2, 3, 1, 1), (1, 2, 0, 1))]:
            for fraction in [(1, 1), (2, 1), (1, 2), (3, 2)]:
                book = [("", fraction), ("L", left), ("R", right)]
                self.assertEqual(self.check(book), book)

    def test_a_sum_that_closes_up_only_far_from_the_beginning(self):
        book = [("", (1, 1)), ("L", (1, 0, 1, 1)), ("R", (5, 1)), ("RL", (1, 0, 0, 1)), ("RR", (0, 1, 1, 0))]
        self.assertEqual(self.check(book), book)
        book = [("", (5, 1)), ("L", (1, 2)), ("R", (1, 1, 0, 1)), ("LL", (1, 0, 2, 1)), ("LR", (1, 1, 1, 2))]
        self.assertEqual(self.check(book), [("", (5, 1)), ("L", (1, 0, 1, 1)), ("R", (1, 1, 0, 1))])
        book[0] = ("", (1, 1))
        self.assertEqual(self.check(book), SAME)


class BookOf(unittest.TestCase):

    def check(self, machine, most=5):
        """A machine has a book exactly if wild is None; each is held against a search behind short roads."""
        book, course = asked(book_of, machine=machine), asked(wild, machine=machine)
        self.assertEqual(book is None, course is not None, machine)
        if book is not None:
            for road in all_roads(most):
                self.assertEqual(full(machine, road), written_by(book, road))
            self.assertEqual(least_found(book), book)
            self.assertEqual(machine_of_book(book), least(machine))
        else:
            self.assertEqual(course, least_way(course))
            text = endless(course, len(course[0]) + 2 * len(course[1]))
            for length in range(len(text) + 1):
                self.assertIsNone(map_done(machine, text[:length]), (machine, course, length))
        return book

    def test_the_machines_of_books(self):
        random = seeded(1231)
        for book in drawn_books(1232, 60):
            machine = machine_of_book(book)
            self.assertEqual(self.check(machine), least_book(book))
            self.assertEqual(book_of(machine_of_book(in_parts(random, book, 2))), least_book(book))

    def test_machines_told_otherwise(self):
        random = seeded(1233)
        for book in drawn_books(1234, 15, most=3):
            for machine in told_otherwise(random, machine_of_book(book)):
                self.assertEqual(asked(book_of, machine=machine), least_book(book))
                self.assertIsNone(wild(machine))

    def test_machines_of_maps(self):
        random = seeded(1235)
        for one in [one for one in all_maps(2) if abs(measure(one)) <= 12] + [
                random_map_of_size(random, 60, size) for size in range(-12, 13) if size != 0]:
            self.assertEqual(asked(book_of, machine=machine_of(one)), [("", one)])
            self.assertIsNone(asked(wild, machine=machine_of(one)))

    def test_drawn_machines(self):
        seen = set()
        for machine in some_machines(seeded(1236), 150, states=4, most=2):
            seen.add(self.check(machine) is None)
        self.assertIn(True, seen)

    def test_machines_that_come_to_maps_on_all_ways(self):
        random = seeded(1237)
        for _ in range(60):
            # Each state leads on only to later ones, the last of which do maps.
            rows = [
                ((random_road(random, random.randint(0, 2)), random.randint(at + 1, 6)),
                 (random_road(random, random.randint(0, 2)), random.randint(at + 1, 6)),
                 random_road(random, random.randint(0, 3))) for at in range(4)]
            ends = [(("L", 4), ("R", 4), ""), (("R", 5), ("L", 5), ""), (("LL", 4), ("LR", 4), "L")]
            book = self.check(("R", rows + ends))
            self.assertIsNotNone(book)
            self.assertLessEqual(max(len(road) for road, _ in book), 5)

    def test_machines_that_do_no_map_behind_endless_many_roads(self):
        for machine in [ENDED, COUNTED, HELD, ("", [(("", 0), ("R", 0), "")]), ("R", [(("L", 0), ("L", 0), "")]),
                        ("", [(("LL", 0), ("RR", 0), "")]), ("", [(("", 0), ("", 0), "L")])]:
            self.assertIsNone(self.check(machine))
        random = seeded(1238)
        for size in (-3, 2, 5):
            self.assertIsNone(self.check(with_ends(random, machine_of(random_map_of_size(random, 12, size)), 2)))

    def test_machines_with_other_books(self):
        for machine, book in [
                (PLAIN, SAME), (EXCHANGED, [("", (1, 1)), ("L", (1, 1, 0, 1)), ("R", (1, 0, 1, 1))]),
                (ALONG, [("", (2, 1)), ("L", (1, 1)), ("R", (1, 2, 0, 1)), ("LL", (1, 0, 1, 1)),
                         ("LR", (2, 1, 1, 1))])]:
            self.assertEqual(self.check(machine), book)
        self.assertIsNotNone(self.check(SECOND_FIRST))

    def test_joined_with_machines_of_maps(self):
        random = seeded(1239)
        for machine in (ENDED, COUNTED, HELD):
            for one in [(2, 0, 0, 1), (0, 1, 1, 0), (1, 0, 0, 3)]:
                for both in (joined(machine, machine_of(one)), joined(machine_of(one), machine)):
                    self.assertIsNone(self.check(both, 4))
        # It is done behind one road alone.
        for road in ("", "L", "RRL"):
            self.assertIsNone(self.check(cut_in(DOUBLE, road, ENDED), 4))
            self.assertIsNotNone(self.check(cut_in(DOUBLE, road, SWAP), 4))
            self.assertIsNotNone(self.check(cut_in(ENDED, "", SWAP), 4))
        one, other = [machine_of_book(random_book(random, 3, sizes=[-2, -1, 1, 2])) for _ in range(2)]
        self.assertIsNotNone(self.check(joined(one, other), 4))
        self.assertIsNone(self.check(joined(joined(COUNTED, one), HALF), 4))

    def test_one_state_among_many_that_comes_round(self):
        # Only R again and again never comes to a map.
        rows = [(("L", 1), ("R", 0), "L"), (("L", 1), ("R", 1), "")]
        self.assertIsNone(self.check(("", rows)))
        self.assertEqual(wild(("", rows)), ("", "R"))
        rows = [(("L", 2), ("R", 1), "L"), (("", 3), ("R", 2), "R"), (("L", 2), ("R", 2), ""),
                (("LL", 1), ("R", 2), "")]
        self.assertIsNone(self.check(("", rows)))
        self.assertEqual(wild(("", rows)), ("R", "L"))
        rows[3] = (("LL", 2), ("R", 2), "")
        self.assertIsNotNone(self.check(("", rows)))

    def test_great_books(self):
        # Nine turns part a map each: 1023 entries less one map that closes up nowhere.
        rows = [(("L", at + 1), ("R", at + 1), "LR"[at % 2] * (at + 1)) for at in range(8)]
        rows += [(("L", 9), ("R", 9), "R"), (("R", 9), ("L", 9), "")]
        book = asked(book_of, machine=("", rows))
        self.assertEqual(len(book), 1023)
        self.assertEqual([road for road, _ in book], all_roads(9))
        self.assertIsNone(wild(("", rows)))
        for road in all_roads(7) + [random_road(seeded(1240), 60)]:
            self.assertEqual(written_by(book, road), full(("", rows), road))

    def test_returned_machines_of_many_states(self):
        for one, road in [((12, 5, 0, 1), "LRL"), ((0, 11, 1, 0), "RR"), ((1, 0, 0, 7), "")]:
            machine = machine_of(one)
            cut = cut_in(machine, road, SWAP)
            book = book_of(cut)
            self.assertEqual(dict(book)[road], put_behind((0, 1, 1, 0), matrix(road)))
            for each in all_roads(6):
                self.assertEqual(written_by(book, each), run(cut, each))
            self.assertEqual(least_found(book), book)
            self.assertIsNone(wild(cut))

    def test_machines_with_books_are_alike_exactly_if_their_least_books_are_the_same(self):
        random = seeded(1241)
        books = []
        for book in drawn_books(1242, 5, most=3):
            books += [book, in_parts(random, book, 2)]
            at = random.randrange(len(book))
            road, value = book[at]
            other = (value[1], value[0]) if len(value) == 2 else (value[1], value[0], value[3], value[2])
            books.append(book[:at] + [(road, other)] + book[at + 1:])
        for one, other in combinations(books, 2):
            machine, other_machine = machine_of_book(one), late(machine_of_book(other))
            self.assertEqual(alike(machine, other_machine), least_book(one) == least_book(other))
            self.assertEqual(book_of(machine) == book_of(other_machine), least_book(one) == least_book(other))

    def test_wild_courses_of_one_to_one_machines(self):
        random = seeded(1243)
        for machine in ONE_TO_ONE + [random_letters(random, random.randint(1, 4)) for _ in range(40)]:
            course = wild(machine)
            self.check(machine, 4)
            if course is not None:
                self.assertNotIn(".", run_of_courses(machine, course))


class BookBehind(unittest.TestCase):

    def check(self, one, other):
        answer = asked(book_behind, one=one, other=other)
        self.assertEqual(answer, least_found(answer))
        for road in SHORT:
            self.assertEqual(written_by(answer, road), written_by(other, written_by(one, road)))
        return answer

    def test_drawn_books(self):
        random = seeded(1251)
        for _ in range(60):
            self.check(random_book(random, random.randint(1, 8)), random_book(random, random.randint(1, 8)))

    def test_one_book_twice(self):
        for book in drawn_books(1252, 25):
            self.check(book, book)
        self.assertEqual(self.check(FOLD, FOLD), FOLD)

    def test_it_is_the_book_of_the_joined_machines(self):
        random = seeded(1253)
        for _ in range(25):
            one, other = [random_book(random, random.randint(1, 5), sizes=[-3, -2, -1, 1, 2, 3]) for _ in range(2)]
            both = joined(machine_of_book(one), machine_of_book(other))
            answer = asked(book_behind, one=one, other=other)
            self.assertEqual(machine_of_book(answer), both)
            self.assertEqual(book_of(both), answer)
            self.assertIsNone(wild(both))

    def test_books_that_take_one_another_back(self):
        random = seeded(1254)
        for _ in range(40):
            there, back = exchanging_book(random, random.randint(1, 8))
            self.assertEqual(self.check(there, back), SAME)
            self.assertEqual(self.check(back, there), SAME)
        for one in [(2, 0, 0, 1), (0, 5, 1, 0), (1, 0, 0, 6), (0, 2, 3, 0)]:
            book, back = [("", one)], [("", turned(one))]
            self.assertEqual(self.check(book, back), SAME)
            self.assertEqual(self.check(parted(book, ""), parted(parted(back, ""), "L")), SAME)

    def test_three_in_a_row_in_both_ways(self):
        random = seeded(1255)
        many = 0
        for _ in range(60):
            one, other, third = [random_book(random, random.randint(1, 5)) for _ in range(3)]
            ahead, later = book_behind(one, other), book_behind(other, third)
            if len(ahead) <= 31 and len(later) <= 31:
                many += 1
                answer = self.check(ahead, third)
                self.assertEqual(asked(book_behind, one=one, other=later), answer)
        self.assertGreater(many, 20)

    def test_maps_of_great_sizes(self):
        book = [("", (6, 1, 0, 1))]
        for _ in range(6):
            book = self.check(book, [("", (5, 0, 0, 6))])
            book = self.check(book, [("", (6, 1, 0, 5))])
        self.assertEqual(book[0][1], behind_all([(6, 1, 0, 1)] + [(5, 0, 0, 6), (6, 1, 0, 5)] * 6))
        self.check(book, FOLD)

    def test_books_of_one_map(self):
        random = seeded(1256)
        for _ in range(40):
            one, other = [random_map_of_size(random, 12, random.choice([-6, -5, -1, 1, 4, 6])) for _ in range(2)]
            self.assertEqual(self.check([("", one)], [("", other)]), [("", behind(one, other))])

    def test_maps_that_lead_into_one_entry_only_slowly(self):
        # The roads of R alone are halved again and again before they leave the entries that are told alone.
        row = [("", (1, 1)), ("L", (1, 0, 1, 1)), ("R", (3, 1)), ("RL", (2, 1, 1, 1)), ("RR", (5, 1)),
               ("RRL", (3, 2, 1, 1)),
               ("RRR", (7, 1)), ("RRRL", (1, 3, 0, 1)), ("RRRR", (1, 4, 0, 1))]
        for one in [(1, 0, 0, 6), (6, 0, 0, 1), (0, 6, 1, 0), (1, 5, 0, 6), (2, 11, 1, 6), (12, 6, 1, 1)]:
            self.check([("", one)], row)
            self.check(row, [("", one)])

    def test_returned_books(self):
        machine = cut_in(DOUBLE, "RL", NEXT)
        book = book_of(machine)
        self.assertEqual(self.check(book, book), book_of(joined(machine, machine)))
        self.assertEqual(in_order(book), book)
        self.assertEqual(self.check(book, book_of(HALF)), book_of(joined(machine, HALF)))


def behind_all(maps):
    one = maps[0]
    for other in maps[1:]:
        one = behind(one, other)
    return one


if __name__ == "__main__":
    unittest.main()
