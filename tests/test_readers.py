"""Readers: led turn by turn, taken back, asked, and compared."""

import unittest
from copy import deepcopy

from leftroads.errors import HasEnded, InvalidMachine, InvalidTurn, NothingToUndo
from leftroads.machines import cut_in, joined, least, run
from leftroads.maps import machine_of
from leftroads.readers import Reader
from leftroads.waits import surely
from tests.made import full, some_machines, sure_rest, told_otherwise
from tests.plain import all_maps, all_roads, ends_of, led, measure, random_map_of_size, random_road, seeded
from tests.turning import HELD, ONE_TO_ONE, PLAIN

DOUBLE, HALF, NEXT, SWAP = [machine_of(one) for one in ((2, 0, 0, 1), (1, 0, 0, 2), (1, 1, 0, 1), (0, 1, 1, 0))]
NO_TURNS = ["", "l", "r", "LR", "LL", "RL", " ", "L ", " R", "x", "-", "0", "M", "<", "~", "LRLR"]


class Led:
    """A reader and what must be told of it, by the road that was read alone."""

    def __init__(self, test, machine):
        self.test, self.machine = test, machine
        self.sure = sure_rest(machine)
        self.reader = Reader(machine)
        self.road, self.has_ended = "", False
        self.calls = 0

    def told(self):
        """All that is written by now."""
        if self.has_ended:
            return full(self.machine, self.road)
        word, state = led(self.machine, self.road)
        return self.machine[0] + word + self.sure[state]

    def check(self):
        before = self.told()
        self.test.assertEqual(self.reader.written(), before)
        self.test.assertEqual(self.reader.road(), self.road)
        self.test.assertEqual(len(self.reader), len(self.road))
        low, high = ends_of(before)
        self.test.assertEqual(self.reader.between(), (low, None if high == (1, 0) else high))
        self.calls += 4

    def turn(self, turn):
        self.calls += 1
        if self.has_ended:
            with self.test.assertRaises(HasEnded) as caught:
                self.reader(turn)
            self.test.assertEqual(caught.exception.value, turn)
            return
        before = self.told()
        self.road += turn
        self.test.assertEqual(before + self.reader(turn), self.told())

    def end(self):
        self.calls += 1
        if self.has_ended:
            with self.test.assertRaises(HasEnded) as caught:
                self.reader.end()
            self.test.assertEqual(caught.exception.value, 0)
            return
        before = self.told()
        self.has_ended = True
        self.test.assertEqual(before + self.reader.end(), self.told())

    def undo(self):
        self.calls += 1
        if not self.has_ended and self.road == "":
            with self.test.assertRaises(NothingToUndo) as caught:
                self.reader.undo()
            self.test.assertEqual(caught.exception.value, 0)
            return
        self.test.assertIsNone(self.reader.undo())
        if self.has_ended:
            self.has_ended = False
        else:
            self.road = self.road[:-1]

    def wrong(self, text):
        self.calls += 1
        with self.test.assertRaises(InvalidTurn) as caught:
            self.reader(text)
        self.test.assertEqual(caught.exception.value, text)


class Readers(unittest.TestCase):

    def machines(self, number):
        random = seeded(number)
        return some_machines(random, 40) + [PLAIN, HELD, DOUBLE, HALF, NEXT, SWAP] + ONE_TO_ONE + [
            machine_of(random_map_of_size(random, 60, size)) for size in (-12, -5, 4, 7, 12)]

    def test_led_by_drawn_turns_and_asked_behind_each(self):
        random = seeded(1301)
        for machine in self.machines(1302):
            pair = Led(self, machine)
            pair.check()
            for turn in random_road(random, 30):
                pair.turn(turn)
                pair.check()
            pair.end()
            pair.check()

    def test_led_for_long_without_a_question(self):
        random = seeded(1303)
        for machine in self.machines(1304):
            road = random_road(random, 190)
            reader = Reader(machine)
            words = [reader(turn) for turn in road]
            self.assertEqual(reader.road(), road)
            end = reader.end()
            self.assertEqual(surely(machine, "") + "".join(words) + end, full(machine, road))
            self.assertEqual(reader.written(), full(machine, road))

    def test_what_a_call_returns_is_what_is_surely_written_more(self):
        for machine in self.machines(1305)[::3]:
            for road in all_roads(5):
                reader = Reader(machine)
                sure = surely(machine, "")
                self.assertEqual(reader.written(), sure)
                for length in range(1, len(road) + 1):
                    word = reader(road[length - 1])
                    sure = sure + word
                    self.assertEqual(sure, surely(machine, road[:length]))
                self.assertEqual(sure + reader.end(), run(machine, road))

    def test_any_row_of_calls(self):
        random = seeded(1306)
        for machine in self.machines(1307):
            pair = Led(self, machine)
            kinds = random.choice(["LR", "LRLRLRu", "LRLRue", "LRuu", "LRuue", "LLRRux"])
            for _ in range(60):
                what = random.choice(kinds)
                if what in "LR":
                    pair.turn(what)
                elif what == "u":
                    pair.undo()
                elif what == "e":
                    pair.end()
                else:
                    pair.wrong(random.choice(NO_TURNS))
                if random.random() < 0.3:
                    pair.check()
            pair.check()

    def test_nearly_two_hundred_calls(self):
        random = seeded(1308)
        for machine in self.machines(1309):
            pair = Led(self, machine)
            while pair.calls < 190:
                what = random.randrange(12)
                if what < 7:
                    pair.turn(random.choice("LR"))
                elif what == 7:
                    pair.undo()
                elif what == 8:
                    pair.end()
                    pair.check()
                    pair.undo()
                elif what == 9:
                    pair.wrong(random.choice(NO_TURNS))
                else:
                    pair.check()
            pair.check()

    def test_by_position_and_by_name(self):
        reader, other = Reader(DOUBLE), Reader(machine=DOUBLE)
        self.assertEqual(reader, other)
        self.assertEqual([reader("R"), reader("L")], [other(turn="R"), other(turn="L")])
        self.assertEqual(reader, other)
        with self.assertRaises(InvalidTurn) as caught:
            other(turn="x")
        self.assertEqual(caught.exception.value, "x")

    def test_the_end(self):
        pair = Led(self, DOUBLE)
        for turn in "RL":
            pair.turn(turn)
        pair.end()
        for _ in range(3):
            pair.turn("L")
            pair.turn("R")
            pair.end()
            pair.check()
        pair.undo()
        pair.check()
        pair.turn("R")
        pair.check()

    def test_texts_that_are_no_turns(self):
        for machine in (PLAIN, DOUBLE, HELD):
            for text in NO_TURNS:
                pair = Led(self, machine)
                pair.wrong(text)
                pair.check()
                for turn in "LRR":
                    pair.turn(turn)
                    pair.wrong(text)
                    pair.check()
                pair.end()
                # Ahead of the end of the road.
                pair.wrong(text)
                pair.check()
                pair.undo()
                pair.wrong(text)
                pair.turn("L")
                pair.check()

    def test_undo_at_the_beginning(self):
        for machine in (PLAIN, DOUBLE, ("RL", [(("", 0), ("", 0), "L")])):
            pair = Led(self, machine)
            for _ in range(3):
                pair.undo()
                pair.check()
            pair.end()
            pair.undo()
            pair.undo()
            pair.check()
            pair.turn("L")
            pair.undo()
            pair.undo()
            pair.check()

    def test_undo_many_times_and_then_on_by_other_turns(self):
        random = seeded(1310)
        for machine in self.machines(1311)[::2]:
            pair = Led(self, machine)
            for back in (5, 10, 20, 30, 45):
                for turn in random_road(random, 25):
                    pair.turn(turn)
                if back % 2:
                    pair.end()
                for _ in range(back):
                    pair.undo()
                pair.check()

    def test_len(self):
        reader = Reader(HELD)
        self.assertEqual(len(reader), 0)
        for number in range(1, 50):
            reader("LR"[number % 2])
            self.assertEqual(len(reader), number)
        reader.end()
        self.assertEqual(len(reader), 49)
        reader.undo()
        self.assertEqual(len(reader), 49)
        reader.undo()
        self.assertEqual(len(reader), 48)
        self.assertIs(type(len(reader)), int)

    def test_between(self):
        reader = Reader(PLAIN)
        self.assertEqual(reader.between(), ((0, 1), None))
        reader("L")
        self.assertEqual(reader.between(), ((0, 1), (1, 1)))
        reader("L")
        self.assertEqual(reader.between(), ((0, 1), (1, 2)))
        reader("R")
        self.assertEqual(reader.between(), ((1, 3), (1, 2)))
        reader.end()
        self.assertEqual(reader.between(), ((1, 3), (1, 2)))
        for _ in range(4):
            reader.undo()
        for number in range(1, 40):
            reader("R")
            self.assertEqual(reader.between(), ((number, 1), None))
        reader("L")
        self.assertEqual(reader.between(), ((39, 1), (40, 1)))
        self.assertEqual(Reader(("LLRL", PLAIN[1])).between(), ends_of("LLRL"))

    def test_between_for_machines_of_maps(self):
        for one in [one for one in all_maps(2) if abs(measure(one)) <= 12]:
            a, b, c, d = one
            reader = Reader(machine_of(one))
            for road in all_roads(4):
                for turn in road:
                    reader(turn)
                (above, below), high = reader.between()
                # All that the map sends numbers of such roads to lies in between.
                ends = ends_of(road)
                for x, y in ends:
                    self.assertGreaterEqual((a * x + b * y) * below, above * (c * x + d * y))
                    if high is not None:
                        self.assertLessEqual((a * x + b * y) * high[1], high[0] * (c * x + d * y))
                for _ in road:
                    reader.undo()

    def test_equal_readers_of_machines_told_otherwise(self):
        random = seeded(1312)
        for machine in self.machines(1313)[::3]:
            for other in told_otherwise(random, machine) + [least(machine)]:
                one, two = Reader(machine), Reader(other)
                self.assertTrue(one == two)
                self.assertFalse(one != two)
                for turn in random_road(random, 10):
                    one(turn)
                    self.assertFalse(one == two)
                    two(turn)
                    self.assertTrue(one == two)
                one.end()
                self.assertTrue(one != two)
                two.end()
                self.assertTrue(one == two)
                one.undo(), one.undo(), two.undo(), two.undo()
                self.assertTrue(one == two)

    def test_unlike_readers(self):
        base = Reader(DOUBLE)
        base("R")
        other_road, other_end, other_machine = Reader(DOUBLE), Reader(DOUBLE), Reader(HALF)
        other_road("L")
        other_end("R"), other_end.end()
        other_machine("R")
        longer = Reader(DOUBLE)
        longer("R"), longer("R")
        for other in (other_road, other_end, other_machine, longer, Reader(DOUBLE)):
            self.assertFalse(base == other)
            self.assertTrue(base != other)
        # They have read and written the same by now, but not for ever.
        one, two = Reader(PLAIN), Reader(cut_in(PLAIN, "LLLL", SWAP))
        for turn in "RRL":
            self.assertEqual(one(turn), two(turn))
        self.assertEqual((one.written(), one.road(), one.between()), (two.written(), two.road(), two.between()))
        self.assertFalse(one == two)

    def test_a_reader_and_what_is_no_reader(self):
        reader = Reader(PLAIN)
        for other in (None, 0, "", "L", [], (), PLAIN, {}, True, ("", ""), least(PLAIN), object):
            self.assertFalse(reader == other)
            self.assertFalse(other == reader)
            self.assertTrue(reader != other)
            self.assertTrue(other != reader)

    def test_the_way_to_a_place_makes_no_difference(self):
        one, other = Reader(HELD), Reader(HELD)
        for turn in "LLR":
            one(turn)
        for turn in "RRLLL":
            other(turn)
        other.end()
        for _ in range(6):
            other.undo()
        for turn in "LLR":
            other(turn)
        self.assertEqual(one, other)

    def test_wrong_machines(self):
        for machine in [("", []), ("x", PLAIN[1]), ("", [(("L", 1), ("R", 0), "")]), ("", [(("L", 0), ("R", -1), "")]),
                        ("", [(("L", 0), ("R ", 0), "")]), ("", [(("L", 0), ("R", 0), "l")])]:
            kept = deepcopy(machine)
            for places, names in (((machine,), {}), ((), {"machine": machine})):
                with self.assertRaises(InvalidMachine) as caught:
                    Reader(*places, **names)
                self.assertEqual(caught.exception.value, kept)
                self.assertIsNot(caught.exception.value[1], machine[1])
            self.assertEqual(machine, kept)

    def test_two_readers_of_one_list(self):
        machine = deepcopy(HELD)
        one, other = Reader(machine), Reader(machine)
        for turn in "LLL":
            one(turn)
        other("R")
        self.assertEqual([one.road(), other.road(), one.written(), other.written()], ["LLL", "R", "LL", ""])
        one.end()
        self.assertEqual([other("R"), other.end()], ["RR", ""])
        self.assertEqual(machine, HELD)

    def test_the_list_changed_behind_the_constructor(self):
        for machine in (HELD, DOUBLE, least(joined(DOUBLE, DOUBLE))):
            own = deepcopy(machine)
            reader = Reader(own)
            reader("L")
            own[1][:] = [(("RRR", 0), ("LLL", 0), "LLLLL")]
            reader("R")
            own[1].clear()
            self.assertEqual(reader("L") + reader.end(), run(machine, "LRL")[len(surely(machine, "LR")):])
            self.assertEqual(reader.written(), run(machine, "LRL"))
            self.assertEqual(own[1], [])
            other = Reader(machine)
            for turn in "LRL":
                other(turn)
            other.end()
            self.assertEqual(reader, other)

    def test_nothing_changes_where_an_error_is_raised(self):
        reader = Reader(DOUBLE)
        kept = Reader(DOUBLE)
        for _ in range(3):
            for text in NO_TURNS:
                with self.assertRaises(InvalidTurn):
                    reader(text)
            with self.assertRaises(NothingToUndo):
                reader.undo()
            self.assertEqual(reader, kept)
        for each in (reader, kept):
            each("R"), each("L"), each.end()
        for _ in range(3):
            for turn in "LR":
                with self.assertRaises(HasEnded):
                    reader(turn)
            with self.assertRaises(HasEnded):
                reader.end()
            self.assertEqual(reader, kept)
            self.assertEqual((reader.written(), len(reader)), ("RR", 2))

    def test_machines_of_forty_states(self):
        random = seeded(1314)
        for _ in range(10):
            rows = [((random_road(random, 12), random.randrange(40)), (random_road(random, random.randint(0, 12)),
                     random.randrange(40)), random_road(random, 12)) for _ in range(40)]
            pair = Led(self, (random_road(random, 12), rows))
            for turn in random_road(random, 30):
                pair.turn(turn)
            pair.check()
            pair.end()
            pair.check()


if __name__ == "__main__":
    unittest.main()
