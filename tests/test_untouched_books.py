"""Promise 2, for books, texts, readings and readers."""

import unittest
from copy import deepcopy

from leftroads import books, readings, texts
from leftroads.books import book_behind, book_of, least_book, machine_of_book, sent_by
from leftroads.maps import machine_of
from leftroads.readers import Reader
from leftroads.readings import read_machine
from leftroads.texts import show_machine
from tests.kept import Kept
from tests.made import some_machines
from tests.plain import parts, seeded
from tests.shelves import exchanging_book, parted, random_book
from tests.turning import ALONG, COUNTED, HELD, PLAIN

FOLD = [("", (1, 1)), ("L", (1, 1, 1, 0)), ("R", (1, 1, 0, 1))]
BOOKS = [[("", (1, 0, 0, 1))], FOLD, parted(parted([("", (2, 1, 0, 3))], ""), "R"), exchanging_book(seeded(1601), 5)[0]]
BOOKS += [random_book(seeded(1602), leaves) for leaves in (1, 3, 8)]
MACHINES = [PLAIN, HELD, ALONG, COUNTED, machine_of((2, 0, 0, 1)), machine_of_book(FOLD)] + some_machines(seeded(1603),
                                                                                                          5)


class Untouched(Kept, unittest.TestCase):

    def all_calls(self):
        """All questions, with lists that are the caller's own."""
        calls = [(function, [deepcopy(machine)]) for machine in MACHINES
                 for function in (books.book_of, books.wild, texts.show_machine)]
        calls += [(function, [list(book)]) for book in BOOKS for function in (books.machine_of_book, books.least_book)]
        calls += [(books.sent_by, [list(book), fraction]) for book in BOOKS for fraction in ((1, 1), (10 ** 9, 7))]
        calls += [(books.book_behind, [list(one), list(other)]) for one in BOOKS for other in BOOKS]
        calls += [(readings.read_machine, [show_machine(machine)]) for machine in MACHINES]
        calls += [(texts.show_map, [(2, 1, 0, 3)]), (texts.show_course, [("RL", "RLRL")]),
                  (readings.read_map, ["(2 x + 1) / (0 x + 3)"]), (readings.read_course, ["R(RL)"])]
        return calls

    def test_one_book_in_both_places(self):
        for book in BOOKS:
            own = list(book)
            self.assertEqual(book_behind(own, own), book_behind(own, list(own)))
            self.assertEqual(own, book)

    def test_a_book_that_was_changed_is_read_anew(self):
        for book, other in zip(BOOKS, BOOKS[1:] + BOOKS[:1]):
            own = list(book)
            for function, passed in [(machine_of_book, ()), (least_book, ()), (sent_by, ((7, 4),)),
                                     (book_behind, (FOLD,))]:
                own[:] = book
                function(own, *passed)
                own[:] = other
                self.assertEqual(function(own, *passed), function(list(other), *passed))
            own[:] = book
            self.assertEqual(book_behind(FOLD, own), book_behind(FOLD, book))

    def test_a_least_book_of_a_least_book_is_a_new_one(self):
        for book in BOOKS:
            one = least_book(book)
            other = least_book(one)
            self.assertEqual(one, other)
            self.assertIsNot(one, other)
            self.assertIsNot(book_behind(one, [("", (1, 0, 0, 1))]), one)

    def test_what_is_read_is_new(self):
        text = show_machine(HELD)
        one, other = read_machine(text), read_machine(text)
        self.assertIsNot(one[1], other[1])
        one[1].clear()
        self.assertEqual(other, HELD)
        self.assertEqual(read_machine(text), HELD)

    def test_readers_keep_no_reference(self):
        for machine in MACHINES:
            own = deepcopy(machine)
            reader, kept = Reader(own), Reader(deepcopy(machine))
            own[1].reverse()
            own[1].append(None)
            for turn in "LRRL":
                self.assertEqual(reader(turn), kept(turn))
            self.assertEqual(reader, kept)
            for answer in (reader.written(), reader.road(), reader.between(), reader.end()):
                self.assertFalse([part for part in parts(answer) if isinstance(part, list)])

    def test_readers_change_nothing_that_was_passed(self):
        for machine in MACHINES:
            own = deepcopy(machine)
            reader = Reader(own)
            for turn in "LRRLLLRL":
                reader(turn)
            reader.end()
            while len(reader):
                reader.undo()
            self.assertEqual(own, machine)

    def test_what_is_returned_may_be_passed_on(self):
        for machine in MACHINES:
            book = book_of(machine)
            if book is not None and len(book) <= 31:
                self.assertEqual(book_of(machine_of_book(book)), book)
                self.assertEqual(least_book(book), book)
                self.assertEqual(Reader(machine_of_book(book)), Reader(machine))


if __name__ == "__main__":
    unittest.main()
