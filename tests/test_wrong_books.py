"""Promise 3, for books and readers: wrong inputs, in each place and in several places at once."""

import unittest
from itertools import permutations, product

from leftroads.books import book_behind, book_of, least_book, machine_of_book, sent_by, wild
from leftroads.errors import InvalidBook, InvalidFraction, InvalidMachine
from leftroads.readers import Reader
from tests.plain import seeded
from tests.shelves import in_order, random_book
from tests.wrong import FEW_MACHINES, FRACTION, MACHINE, STATE, Wrongs, named, with_state

SAME = [("", (1, 0, 0, 1))]
FOLD = [("", (1, 1)), ("L", (1, 1, 1, 0)), ("R", (1, 1, 0, 1))]
DEEP = [("", (1, 1)), ("L", (2, 0, 0, 1)), ("R", (3, 2)), ("RL", (2, 1)), ("RR", (1, 0, 0, 3)), ("RLL", (0, 1, 1, 0)),
        ("RLR", (1, 1, 0, 1))]
BOOKS = [SAME, FOLD, DEEP]
WRONG_ROADS = ["X", "l", "Lx", " ", "-", "L ", "M"]
WRONG_FRACTIONS = FRACTION[1]
WRONG_MAPS = [(0, 0, 0, 0), (1, 1, 1, 1), (2, 1, 4, 2), (-1, 0, 0, 1), (1, -1, 0, 1), (1, 0, -1, 1), (1, 0, 0, -1),
              (-1, 0, 0, -1), (2, 0, 0, 2), (0, 3, 3, 0)]


def with_entry(book, at, entry):
    return book[:at] + [entry] + book[at + 1:]


def left_out_or_twice(book):
    made = [book[:at] + book[at + 1:] for at in range(len(book))]
    return made + [book[:at] + [book[at]] + book[at:] for at in range(len(book))]


def at_another_place(book):
    """The same entries in all orders but the right one, or in some of them."""
    if len(book) <= 4:
        return [list(each) for each in permutations(book) if list(each) != book]
    made = []
    for at, to in product(range(len(book)), repeat=2):
        rest = book[:at] + book[at + 1:]
        made.append(rest[:to] + [book[at]] + rest[to:])
    return [each for each in made if each != book]


def behind_a_map(book):
    """One entry too many, behind or before one that tells its road already."""
    made = []
    for road, value in book:
        if len(value) == 4:
            for rest in ("L", "R", "LL", "RLR"):
                for more in ((1, 2), (1, 0, 0, 1)):
                    made.append(in_order(book + [(road + rest, more)]))
            made.append(in_order(book + [(road + "L", (1, 1)), (road + "R", (1, 1))]))
            made.append(in_order(book + [(road + "L", (1, 0, 0, 1)), (road + "R", (1, 0, 0, 1))]))
    return made


def with_a_road_that_is_none(book):
    """One entry too many, behind a road that is told alone, but by another letter."""
    return [in_order(book + [(road + letter, more)]) for road, value in book if len(value) == 2
            for letter in ("X", "l", " ", "~", "-", "M") for more in ((1, 2), (1, 0, 0, 1))]


def of_another_kind(book):
    """A map told as a fraction, or a fraction as a map."""
    return [with_entry(book, at, (road, (1, 2) if len(value) == 4 else (1, 0, 0, 1)))
            for at, (road, value) in enumerate(book)]


def with_wrong_parts(book):
    made = []
    for at, (road, value) in enumerate(book):
        made += [with_entry(book, at, (road + wrong, value)) for wrong in WRONG_ROADS]
        made += [with_entry(book, at, (road, wrong)) for wrong in (WRONG_FRACTIONS if len(value) == 2 else WRONG_MAPS)]
    return made


WRONG_BOOKS = [[]]
for right in BOOKS:
    WRONG_BOOKS += left_out_or_twice(right) + at_another_place(right) + behind_a_map(right) + with_wrong_parts(right)
    WRONG_BOOKS += of_another_kind(right) + with_a_road_that_is_none(right)
WRONG_BOOKS += [
    [("L", (1, 0, 0, 1))], [("L", (1, 0, 0, 1)), ("R", (1, 0, 0, 1))], [("", (1, 1))],
    [("R", (1, 1)), ("RL", (1, 0, 0, 1))],
    [("", (1, 1)), ("LL", (1, 0, 0, 1)), ("RR", (1, 0, 0, 1))],
    [("", (1, 1)), ("R", (1, 0, 0, 1)), ("L", (1, 0, 0, 1))],
    [("", (1, 1)), ("L", (1, 0, 0, 1)), ("RL", (1, 0, 0, 1)), ("RR", (1, 0, 0, 1))],
    [("", (1, 1)), ("L", (1, 0, 0, 1)), ("R", (1, 2)), ("RL", (1, 0, 0, 1)), ("RRL", (1, 0, 0, 1)),
     ("RRR", (1, 0, 0, 1))]]
FEW_BOOKS = [[], FOLD[:2], [FOLD[0], FOLD[2], FOLD[1]], with_entry(FOLD, 1, ("L", (2, 0, 0, 2))),
             with_entry(DEEP, 2, ("R", (2, 2))), FOLD + [("RL", (1, 1))]]
BOOK = (BOOKS, WRONG_BOOKS, InvalidBook)
FEW_OF_BOOKS = (BOOKS, FEW_BOOKS, InvalidBook)
QUESTIONS = [
    (book_of, [MACHINE], named("machine")),
    (wild, [MACHINE], named("machine")),
    (Reader, [MACHINE], named("machine")),
    (machine_of_book, [BOOK], named("book")),
    (least_book, [BOOK], named("book")),
    (sent_by, [BOOK, (FRACTION[0][:1], FRACTION[1][:3], InvalidFraction)], named("book", "fraction")),
    (sent_by, [FEW_OF_BOOKS, FRACTION], named("book", "fraction")),
    (book_behind, [BOOK, FEW_OF_BOOKS], named("one", "other")),
    (book_behind, [FEW_OF_BOOKS, BOOK], named("one", "other")),
]


class Wrong(Wrongs, unittest.TestCase):

    def test_every_question_in_every_place_and_in_several_at_once(self):
        self.check_all(QUESTIONS)

    def test_there_are_wrong_books_of_all_kinds(self):
        self.assertGreater(len(WRONG_BOOKS), 300)
        for book in BOOKS:
            self.assertNotIn(book, WRONG_BOOKS)
            self.assertEqual(sent_by(book, (1, 1)), sent_by(least_book(book), (1, 1)))

    def test_drawn_books_with_one_thing_wrong(self):
        random = seeded(1501)
        for _ in range(20):
            book = random_book(random, random.randint(1, 8))
            for wrong in left_out_or_twice(book) + behind_a_map(book) + with_wrong_parts(book) + of_another_kind(book):
                self.check(least_book, {"book": wrong}, InvalidBook, wrong)

    def test_the_first_of_two_wrong_books(self):
        for one, other in product(FEW_BOOKS, repeat=2):
            self.check(book_behind, {"one": one, "other": other}, InvalidBook, one)

    def test_a_wrong_book_ahead_of_a_wrong_fraction(self):
        for book in FEW_BOOKS:
            for fraction in ((0, 1), (2, 2)):
                self.check(sent_by, {"book": book, "fraction": fraction}, InvalidBook, book)

    def test_the_list_of_an_error_is_new_and_its_own(self):
        for book in FEW_BOOKS:
            for function, passed in [(machine_of_book, ()), (least_book, ()), (sent_by, ((1, 1),)),
                                     (book_behind, (SAME,))]:
                own, held = list(book), []
                for _ in range(2):
                    with self.assertRaises(InvalidBook) as caught:
                        function(own, *passed)
                    held.append(caught.exception.value)
                self.assertIsNot(held[0], held[1])
                self.assertIsNot(held[0], own)
                held[0].append(None)
                self.assertEqual((own, held[1]), (book, book))
        for machine in FEW_MACHINES + [with_state((("L", 0), ("R", 9), ""))]:
            for function in (book_of, wild, Reader):
                with self.assertRaises(InvalidMachine) as caught:
                    function(machine)
                self.assertIsNot(caught.exception.value[1], machine[1])
                self.assertEqual(caught.exception.value, machine)

    def test_a_book_that_was_wrong_is_read_anew(self):
        book = list(FOLD)
        last = book.pop()
        with self.assertRaises(InvalidBook) as caught:
            sent_by(book, (3, 1))
        book.append(last)
        self.assertEqual(sent_by(book, (3, 1)), (3, 1))
        self.assertEqual(caught.exception.value, FOLD[:2])

    def test_machines_that_are_none(self):
        for letter in ("x", " ", "-"):
            for machine in [(letter, [STATE, STATE]), with_state(((letter, 0), ("R", 1), "L")),
                            with_state((("L", 0), (letter, 1), "")), with_state((("L", 1), ("", 0), letter))]:
                for function in (book_of, wild, Reader):
                    self.check(function, {"machine": machine}, InvalidMachine, machine)


if __name__ == "__main__":
    unittest.main()
