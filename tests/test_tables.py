"""Promises 8 and 9: what machines write for all short roads, and which machine it is."""

import unittest
from itertools import product

from leftroads.compare import alike
from leftroads.machines import cut_in, is_least, joined, least
from leftroads.maps import machine_of
from leftroads.tables import machine_from, table_of
from tests.made import full, late, random_machine, random_word, some_machines, told_otherwise
from tests.plain import all_roads, asked, led, random_map_of_size, random_road, seeded

DOUBLE, HALF, NEXT, SWAP = [machine_of(one) for one in ((2, 0, 0, 1), (1, 0, 0, 2), (1, 1, 0, 1), (0, 1, 1, 0))]
PLAIN = ("", [(("L", 0), ("R", 0), "")])


def splits(word):
    return [(word[:at], word[at:]) for at in range(len(word) + 1)]


def steps_through(written, state_of, ends, states):
    """The only rows with these ends that fit what is written, None if there are none, with what is written first."""
    if not written[""].endswith(ends[0]):
        return None
    first = written[""][:len(written[""]) - len(ends[0])]
    rows = []
    for state in range(states):
        road = next(road for road in written if state_of[road] == state)
        done = written[road][:len(written[road]) - len(ends[state])]
        steps = []
        for turn in "LR":
            whole, follower = written[road + turn], state_of[road + turn]
            if not whole.endswith(ends[follower]) or not whole[:len(whole) - len(ends[follower])].startswith(done):
                return None
            steps.append((whole[len(done):len(whole) - len(ends[follower])], follower))
        rows.append((steps[0], steps[1], ends[state]))
    return (first, rows)


def machine_found(words, most):
    """A machine of at most so many states for a table: all ways to go from state to state, with all ends, are tried."""
    roads = all_roads(2 * most - 1)
    written = dict(zip(roads, words))
    for states in range(1, most + 1):
        for follow in product(range(states), repeat=2 * states):
            plain = ("", [(("", follow[2 * at]), ("", follow[2 * at + 1]), "") for at in range(states)])
            state_of = {road: led(plain, road)[1] for road in roads}
            short = {state_of[road] for road in all_roads(most - 1)}
            if len(short) < states:
                continue
            firsts = [next(road for road in roads if state_of[road] == state) for state in range(states)]
            for ends in product(*[[end for _, end in splits(written[road])] for road in firsts]):
                machine = steps_through(written, state_of, ends, states)
                if machine is not None and [full(machine, road) for road in roads] == words:
                    return machine
    return None


class TableOf(unittest.TestCase):

    def test_drawn_machines(self):
        for machine in some_machines(seeded(1001), 40):
            for length in range(8):
                self.assertEqual(asked(table_of, machine=machine, length=length),
                                 [full(machine, road) for road in all_roads(length)])

    def test_lengths(self):
        for length in range(8):
            self.assertEqual(table_of(PLAIN, length), all_roads(length))
            self.assertEqual(len(table_of(DOUBLE, length)), 2 ** (length + 1) - 1)
        self.assertEqual(table_of(("RL", [(("LL", 0), ("", 0), "LR")]), 0), ["RLLR"])

    def test_machines_told_otherwise(self):
        random = seeded(1002)
        for machine in some_machines(random, 20):
            for other in told_otherwise(random, machine) + [least(machine)]:
                self.assertEqual(table_of(other, 6), table_of(machine, 6))

    def test_two_machines_of_so_many_states_are_told_apart(self):
        random = seeded(1003)
        for _ in range(150):
            one, other = some_machines(random, 2, states=4, most=1)
            length = len(one[1]) + len(other[1]) - 1
            self.assertEqual(table_of(one, length) == table_of(other, length), alike(one, other))

    def test_great_machines(self):
        machine = joined(machine_of((7, 3, 1, 1)), machine_of((5, 0, 0, 2)))
        self.assertEqual(table_of(machine, 7), [full(machine, road) for road in all_roads(7)])


class MachineFrom(unittest.TestCase):

    def check_back(self, machine, most):
        """A machine of at most so many states is told back by its table, in its least form."""
        answer = asked(machine_from, words=table_of(machine, 2 * most - 1), most=most)
        self.assertEqual(answer, least(machine), machine)
        self.assertTrue(is_least(answer))

    def test_drawn_machines(self):
        random = seeded(1011)
        for most in (1, 2, 3):
            for _ in range(250):
                self.check_back(random_machine(random, random.randint(1, most), random.randint(0, 4)), most)

    def test_machines_with_long_words(self):
        random = seeded(1012)
        for most in (1, 2, 3):
            for _ in range(60):
                machine = random_machine(random, random.randint(1, most), 60 // (2 * most + 1))
                self.check_back(machine, most)

    def test_machines_with_long_ends(self):
        random = seeded(1013)
        for most in (1, 2, 3):
            for _ in range(150):
                rows = random_machine(random, most, 2)[1]
                ends = [random.choice(("LRL", "R", "LLR")) * 20 for _ in rows]
                rows = [(left, right, end[:random.randint(0, 40)]) for (left, right, _), end in zip(rows, ends)]
                self.check_back(("", rows), most)

    def test_words_split_as_late_as_can_be(self):
        # What is sure at a state is told only by roads that come to it again.
        random = seeded(1014)
        for ring in ("L", "LR", "LLR", "RLRR"):
            for end in range(20, 44):
                for tail in ("", "L", "R", "RR"):
                    whole = (ring * 44)[:end] + tail
                    for most in (1, 2, 3):
                        rows = [((ring, random.randrange(most)), (ring * 2, random.randrange(most)), whole)
                                for _ in range(most)]
                        self.check_back(("", rows), most)
                        rows[0] = (rows[0][0], (ring, most - 1), (ring * 40)[:end + 3])
                        rows[-1] = ((ring[:1], 0), rows[-1][1], rows[-1][2])
                        self.check_back(("R", rows), most)

    def test_ends_that_come_back_only_along_all_states(self):
        for most in (2, 3):
            for word in ("L", "LL", "LLL"):
                for number in range(0, 31):
                    rows = [((word, (state + 1) % most), (word, (state + 1) % most), "L" * number)
                            for state in range(most)]
                    rows[-1] = (rows[-1][0], rows[-1][1], "L" * (number // 2) + "R")
                    self.check_back(("", rows), most)
                    rows[-1] = ((word, 0), ("L" * 10, 0), "L" * number)
                    rows[0] = (rows[0][0], rows[0][1], "L" * number + "R")
                    self.check_back(("", rows), most)

    def test_more_states_than_are_needed(self):
        random = seeded(1015)
        for _ in range(80):
            machine = random_machine(random, random.randint(1, 2), 3)
            for most in range(len(machine[1]), 4):
                self.check_back(machine, most)
        for machine in (PLAIN, NEXT, SWAP, ("RL", [(("", 0), ("", 0), "L")])):
            for most in (1, 2, 3, 4):
                self.check_back(machine, most)

    def test_machines_told_otherwise(self):
        random = seeded(1016)
        for machine in some_machines(random, 40, states=2, most=3):
            for other in told_otherwise(random, machine):
                self.assertEqual(machine_from(table_of(other, 5), 3), least(machine))

    def check(self, words, most):
        """Hold it against a search."""
        found = machine_found(words, most)
        answer = asked(machine_from, words=words, most=most)
        self.assertEqual(answer, None if found is None else least(found), (words, most))
        return found is None

    def test_held_against_a_search_for_one_state(self):
        none = set()
        short = all_roads(2)
        for words in product(short, repeat=3):
            none.add(self.check(list(words), 1))
        for words in product(["LLR", "LLRLR", "LLRR", "LR"], repeat=3):
            none.add(self.check(list(words), 1))
        self.assertEqual(none, {True, False})

    def test_one_changed_word_of_two_states(self):
        random = seeded(1017)
        none = []
        for _ in range(60):
            machine = random_machine(random, random.randint(1, 2), 2)
            words = table_of(machine, 3)
            at = random.randrange(len(words))
            words[at] = random.choice([random_word(random, 4), words[at] + "L", words[at][1:], words[at][:-1] + "R"])
            none.append(self.check(words, 2))
        self.assertIn(True, none)
        self.assertIn(False, none)

    def test_drawn_words_for_two_states(self):
        random = seeded(1018)
        for _ in range(60):
            self.check([random_word(random, 2) for _ in range(15)], 2)
        # All of them begin alike, so that more roads have the same changes.
        for _ in range(60):
            self.check([random.choice(("L", "LL")) for _ in range(15)], 2)

    def test_one_changed_word_of_three_states(self):
        random = seeded(1019)
        for _ in range(12):
            words = table_of(random_machine(random, 3, 1), 5)
            self.check(words, 3)
            at = random.randrange(31, 63)
            words[at] = random.choice([words[at] + "R", words[at][1:]])
            self.check(words, 3)

    def test_every_word_changed_of_machines_that_need_all_states(self):
        # Each word is told by others, so that no machine of so many states writes just one of them otherwise.
        for machine, most in [(NEXT, 1), (("", [(("L", 0), ("R", 0), "L")]), 1),
                              (("", [(("L", 1), ("R", 0), "R"), (("RL", 0), ("", 1), "")]), 2),
                              (("", [(("L", 1), ("R", 2), ""), (("R", 0), ("L", 1), "L"), (("", 2), ("RR", 0), "")]),
                               3)]:
            words = table_of(machine, 2 * most - 1)
            self.assertEqual(machine_from(words, most), least(machine))
            for at in range(1, len(words)):
                for other in (words[at] + "L", "R" + words[at], words[at] + "RR"):
                    changed = words[:at] + [other] + words[at + 1:]
                    answer = machine_from(changed, most)
                    if most == 1:
                        self.assertEqual(answer, None if machine_found(changed, 1) is None
                                         else least(machine_found(changed, 1)))
                    else:
                        self.assertIsNone(answer)

    def test_too_few_states(self):
        three = ("", [(("L", 1), ("R", 0), ""), (("L", 2), ("R", 1), ""), (("R", 2), ("L", 0), "")])
        self.assertEqual(len(least(three)[1]), 3)
        self.check_back(three, 3)
        self.assertIsNone(machine_from(table_of(three, 3), 2))
        # So few words tell nothing of its other states.
        self.assertEqual(machine_from(table_of(three, 1), 1), PLAIN)
        self.assertIsNone(machine_from(table_of(DOUBLE, 5), 3))
        self.assertIsNone(machine_from(table_of(HALF, 5), 3))
        self.check_back(DOUBLE, 4)

    def test_words_that_fit_to_the_last_but_one_turn(self):
        # Both write the same for all roads of four turns, and are parted by one of five.
        rows = [(("L", 1), ("R", 0), ""), (("L", 2), ("R", 0), ""), (("L", 2), ("R", 0), "")]
        for last in ("L", "R"):
            rows[2] = ((last, 2), ("R", 0), "")
            self.check_back(("", rows), 3)
        four = ("", rows[:2] + [(("L", 3), ("R", 0), ""), (("RR", 3), ("R", 0), "")])
        self.assertIsNone(machine_from(table_of(four, 5), 3))

    def test_what_would_have_to_be_taken_off_ever_more(self):
        # The more turns are read, the less is written; so it can't go on.
        self.assertIsNone(machine_from(["LLLL", "LLL", "LLL"], 1))
        words = ["L" * (40 - len(road)) for road in all_roads(3)]
        self.assertIsNone(machine_from(words, 2))
        words = ["L" * (60 - 7 * len(road)) for road in all_roads(5)]
        self.assertIsNone(machine_from(words, 3))
        # Here it is only put off, as it is taken off behind L alone.
        words = ["L" * (9 - len(road) % 2) for road in all_roads(3)]
        self.assertFalse(self.check(words, 2))

    def test_words_of_sixty_turns(self):
        random = seeded(1020)
        road = random_road(random, 56)
        for rows in ([((road[:10], 0), (road[40:50], 0), "")], [(("", 0), ("LR", 0), road[:50])],
                     [(("L", 1), ("R", 0), road[:50]), (("L", 0), ("", 1), "RL")]):
            most = len(rows)
            self.check_back((road[:6], rows), most)
        self.check_back(("", [(("", 0), ("", 0), road)]), 3)

    def test_cuts(self):
        random = seeded(1021)
        for _ in range(20):
            machine = cut_in(PLAIN, random.choice("LR"), ("R", [(("L", 0), ("LR", 0), random_word(random, 2))]))
            self.assertLessEqual(len(machine[1]), 3)
            self.check_back(machine, 3)
            self.check_back(late(machine), 3)


if __name__ == "__main__":
    unittest.main()
