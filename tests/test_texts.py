"""Texts of maps, machines and courses, and what is read from them."""

import re
import unittest
from math import gcd

from leftroads.errors import Unreadable
from leftroads.machines import joined, least
from leftroads.maps import behind, machine_of
from leftroads.readings import read_course, read_machine, read_map
from leftroads.sources import course_source
from leftroads.texts import show_course, show_machine, show_map
from tests.made import random_machine, some_machines
from tests.plain import all_maps, all_roads, asked, least_way, random_map, random_map_of_size, random_road, seeded

PLAIN = ("", [(("L", 0), ("R", 0), "")])
NUMBER = "(0|[1-9][0-9]{0,8})"
WORD = "(-|[LR]+)"
MAP = re.compile(rf"\({NUMBER} x \+ {NUMBER}\) / \({NUMBER} x \+ {NUMBER}\)")
STATE = re.compile(f"{WORD}>{NUMBER} {WORD}>{NUMBER} {WORD}")
COURSE = re.compile(r"([LR]*)\(([LR]+)\)")
SIGNS = "LR()0129-+/x;> ~!A"


def plain_word(word):
    return "" if word == "-" else word


def map_with(text):
    """The map with a text, None if there is none."""
    found = MAP.fullmatch(text)
    if found is None:
        return None
    a, b, c, d = map(int, found.groups())
    return (a, b, c, d) if a * d != b * c and gcd(a, b, c, d) == 1 else None


def machine_with(text):
    """The machine with a text, None if there is none."""
    first, *pieces = text.split("; ")
    found = [STATE.fullmatch(piece) for piece in pieces]
    if not re.fullmatch(WORD, first) or not found or None in found:
        return None
    rows = []
    for each in found:
        left, after_left, right, after_right, end = each.groups()
        if max(int(after_left), int(after_right)) >= len(found):
            return None
        rows.append(((plain_word(left), int(after_left)), (plain_word(right), int(after_right)), plain_word(end)))
    return (plain_word(first), rows)


def course_with(text):
    """The course with a text, None if there is none."""
    found = COURSE.fullmatch(text)
    if found is None or least_way(found.groups()) != found.groups():
        return None
    return found.groups()


def changed(text, signs=SIGNS):
    """The text with one sign put in, taken out or exchanged, at each place."""
    made = [text[:at] + text[at + 1:] for at in range(len(text))]
    made += [text[:at] + sign + text[at:] for at in range(len(text) + 1) for sign in signs]
    return made + [text[:at] + sign + text[at + 1:] for at in range(len(text)) for sign in signs]


class Texts(unittest.TestCase):

    def check_reading(self, read, text, expected):
        if expected is None:
            for places, names in (((text,), {}), ((), {"text": text})):
                with self.assertRaises(Unreadable, msg=text) as caught:
                    read(*places, **names)
                self.assertEqual(caught.exception.value, text)
                self.assertIs(type(caught.exception), Unreadable)
        else:
            self.assertEqual(asked(read, text=text), expected)


class Maps(Texts):

    def check(self, text):
        expected = map_with(text)
        self.check_reading(read_map, text, expected)
        if expected is not None:
            self.assertEqual(show_map(expected), text)
        return expected

    def test_shown_and_read_back(self):
        random = seeded(1401)
        for one in all_maps(2) + [random_map(random, 10 ** 6) for _ in range(60)] + [
                random_map_of_size(random, 60, 12) for _ in range(20)]:
            text = asked(show_map, one=one)
            self.assertEqual(text, "({} x + {}) / ({} x + {})".format(*one))
            self.assertEqual(self.check(text), one)

    def test_some(self):
        self.assertEqual(show_map((1, 0, 0, 1)), "(1 x + 0) / (0 x + 1)")
        self.assertEqual(show_map((10 ** 6, 0, 1, 999999)), "(1000000 x + 0) / (1 x + 999999)")
        self.assertEqual(read_map("(0 x + 7) / (3 x + 0)"), (0, 7, 3, 0))

    def test_one_sign_changed_at_each_place(self):
        seen = set()
        for one in [(2, 1, 0, 3), (1, 0, 0, 1), (12, 5, 7, 3), (0, 1, 10, 0)]:
            for text in changed(show_map(one)):
                seen.add(self.check(text) is None)
        self.assertEqual(seen, {True, False})

    def test_integers_with_leading_zeros_or_with_ten_digits(self):
        for number, is_read in [("123456789", True), ("999999999", True), ("1234567890", False), ("01", False),
                                ("00", False), ("001234567", False), ("", False), ("-1", False), ("+1", False),
                                ("1.0", False), ("1e3", False), ("x", False), ("1_0", False), ("0x1", False)]:
            for text in (f"({number} x + 1) / (1 x + 0)", f"(1 x + {number}) / (0 x + 1)",
                         f"(1 x + 0) / ({number} x + 1)",
                         f"(0 x + 1) / (1 x + {number})"):
                self.assertEqual(self.check(text) is not None, is_read, text)

    def test_a_common_divisor_or_no_size(self):
        for one in [(2, 0, 0, 2), (4, 2, 2, 6), (0, 3, 3, 0), (0, 0, 0, 0), (1, 1, 1, 1), (2, 1, 4, 2), (0, 0, 1, 1),
                    (1, 0, 1, 0), (999999999, 0, 0, 999999999)]:
            self.assertIsNone(self.check("({} x + {}) / ({} x + {})".format(*one)))

    def test_texts_that_are_none(self):
        for text in ["", " ", "x", "(1 x + 0) / (0 x + 1) ", " (1 x + 0) / (0 x + 1)", "(1 x + 0) / (0 x + 1)(", "()",
                     "(1 x + 0)/(0 x + 1)", "(1x + 0) / (0x + 1)", "1 x + 0 / 0 x + 1", "(1 x + 0) / (0 x - 1)",
                     "(1 x + 0) / (0 x + 1) / (0 x + 1)", "((1 x + 0)) / (0 x + 1)", "(1 y + 0) / (0 y + 1)", "L",
                     "(L)",
                     "(1 x + 0) * (0 x + 1)", "(1  x + 0) / (0 x + 1)", "1)( x + 0 / (0 x + 1)", "-; L>0 R>0 -",
                     "(x x + 0) / (0 x + 1)", "(1 x + 0) / (0 x + 1", "(1 0 0 1)", "1 0 0 1", "~" * 3000, "(" * 3000]:
            self.assertIsNone(self.check(text))

    def test_maps_of_any_size(self):
        one = (999999999, 999999998, 1, 999999997)
        self.assertEqual(self.check(show_map(one)), one)


class Machines(Texts):

    def check(self, text):
        expected = machine_with(text)
        self.check_reading(read_machine, text, expected)
        if expected is not None:
            self.assertEqual(show_machine(expected), text)
        return expected

    def shown(self, machine):
        first, rows = machine
        text = first or "-"
        for (left, after_left), (right, after_right), end in rows:
            text += "; " + (left or "-") + ">" + str(after_left) + " " + (right or "-") + ">" + str(after_right)
            text += " " + (end or "-")
        return text

    def test_shown_and_read_back(self):
        for machine in some_machines(seeded(1411), 120):
            text = asked(show_machine, machine=machine)
            self.assertEqual(text, self.shown(machine))
            self.assertEqual(self.check(text), machine)

    def test_words_that_are_empty_at_each_place(self):
        for words in all_roads(1):
            for first, left, right, end in [("", words, "R", "L"), ("R", "", words, "L"), (words, "L", "", "R"),
                                            ("RL", "L", words, ""), ("", "", "", "")]:
                machine = (first, [((left, 0), (right, 0), end)])
                self.assertEqual(show_machine(machine), self.shown(machine))
                self.assertEqual(self.check(show_machine(machine)), machine)
        self.assertEqual(show_machine(("", [(("", 0), ("", 0), "")])), "-; ->0 ->0 -")

    def test_machines_of_forty_states(self):
        random = seeded(1412)
        for _ in range(15):
            rows = [((random_road(random, random.randint(0, 12)), random.randrange(40)),
                     (random_road(random, random.randint(0, 12)), random.randrange(40)),
                     random_road(random, random.randint(0, 12))) for _ in range(40)]
            machine = (random_road(random, 12), rows)
            self.assertEqual(show_machine(machine), self.shown(machine))
            self.assertEqual(self.check(show_machine(machine)), machine)

    def test_returned_machines(self):
        random = seeded(1413)
        for size in (-12, 7, 12):
            machine = joined(machine_of(random_map_of_size(random, 60, size)), random_machine(random, 3, 2))
            self.assertEqual(self.check(show_machine(machine)), machine)
            self.assertEqual(least(read_machine(show_machine(machine))), machine)

    def test_one_sign_changed_at_each_place(self):
        seen = set()
        for machine in [("R", [(("L", 0), ("R", 0), "")]),
                        ("", [(("", 1), ("RL", 0), "L"), (("LR", 1), ("", 0), "R")])]:
            for text in changed(show_machine(machine)):
                seen.add(self.check(text) is None)
        self.assertEqual(seen, {True, False})

    def test_states_that_there_are_not(self):
        for text in ["-; L>1 R>0 -", "-; L>0 R>1 -", "-; L>0 R>2 -; L>1 R>0 -", "-; L>0 R>999999999 -",
                     "-; L>-1 R>0 -"]:
            self.assertIsNone(self.check(text))
        self.assertEqual(self.check("-; L>1 R>1 -; L>0 R>0 -"),
                         ("", [(("L", 1), ("R", 1), ""), (("L", 0), ("R", 0), "")]))

    def test_integers_with_leading_zeros_or_with_ten_digits(self):
        many = "".join(["; L>0 R>0 -"] * 13)
        for number, is_read in [("0", True), ("12", True), ("13", False), ("00", False), ("01", False), ("012", False),
                                ("1234567890", False), ("0000000001", False), ("", False), ("+1", False),
                                ("1 ", False)]:
            for text in (f"-; L>{number} R>0 -{many[11:]}", f"-{many[11:]}; L>0 R>{number} -"):
                self.assertEqual(self.check(text) is not None, is_read, text)

    def test_words_that_are_no_roads(self):
        for word in ("X", "l", "LrL", "--", "-L", "L-", "", "0", "L0", "L,R", "R.L"):
            for text in (f"{word}; L>0 R>0 -", f"-; {word}>0 R>0 -", f"-; L>0 {word}>0 -", f"-; L>0 R>0 {word}"):
                self.assertIsNone(self.check(text))

    def test_texts_that_are_none(self):
        for text in ["", "-", "R", "; ", "-; ", "-;", "-; L>0 R>0", "-; L>0 R>0 - ", " -; L>0 R>0 -", "-; L>0 R>0 -;",
                     "-; L>0 R>0 -; ", "-;L>0 R>0 -", "-;  L>0 R>0 -", "-; L>0  R>0 -", "-; L>0 R>0  -",
                     "- ; L>0 R>0 -",
                     "-; L > 0 R > 0 -", "-; L>0 R>0 - -", "-; L>0 R>0 L>0 -", "-; L>0>0 R>0 -", "-; L>0 R>0 -; L>0",
                     "(L)",
                     "-; L 0 R 0 -", "-, L>0 R>0 -", "L>0 R>0 -", "-; -", "-; L>0 R>0 -\\", "~" * 3000, "; " * 1500]:
            self.assertIsNone(self.check(text))

    def test_machines_of_any_size(self):
        text = "-" + "; L>0 R>0 -" * 272
        self.assertLessEqual(len(text), 3000)
        self.assertEqual(self.check(text), ("", PLAIN[1] * 272))
        text = "L" * 2980 + "; R>0 ->0 -"
        self.assertEqual(self.check(text), ("L" * 2980, [(("R", 0), ("", 0), "")]))


class Courses(Texts):

    def check(self, text):
        expected = course_with(text)
        self.check_reading(read_course, text, expected)
        if expected is not None:
            self.assertEqual(show_course(expected), text)
        return expected

    def test_shown_and_read_back(self):
        for ahead in all_roads(4):
            for ring in all_roads(4)[1:]:
                least_ahead, least_ring = least_way((ahead, ring))
                text = asked(show_course, told=(ahead, ring))
                self.assertEqual(text, least_ahead + "(" + least_ring + ")")
                self.assertEqual(self.check(text), (least_ahead, least_ring))

    def test_courses_that_are_not_told_in_their_least_way(self):
        seen = set()
        for ahead in all_roads(4):
            for ring in all_roads(4)[1:]:
                seen.add(self.check(f"{ahead}({ring})") is None)
        self.assertEqual(seen, {True, False})
        for text in ["(RLRL)", "L(L)", "RL(RL)", "R(LR)", "(LL)", "LLR(LRLLRL)", "L(RRL)"]:
            self.assertIsNone(self.check(text))

    def test_rings_of_twelve_and_roads_of_sixty_one_turns(self):
        random = seeded(1421)
        for _ in range(60):
            told = (random_road(random, random.randint(0, 61)), random_road(random, random.randint(1, 12)))
            least_ahead, least_ring = least_way(told)
            self.assertEqual(asked(show_course, told=told), f"{least_ahead}({least_ring})")
            self.assertEqual(self.check(show_course(told)), (least_ahead, least_ring))
        self.assertEqual(show_course(("L" * 61, "LLLLLLLLLLLL")), "(L)")
        self.assertEqual(show_course(("R" + "L" * 60, "LLLLLL")), "R(L)")
        self.assertEqual(show_course(("R" * 61, "LLLRRRLLLRRR")), "R" * 58 + "(RRRLLL)")

    def test_one_sign_changed_at_each_place(self):
        seen = set()
        for told in [("", "RL"), ("R", "RL"), ("LLR", "LRL"), ("", "L"), ("RLL", "RRLLRL")]:
            for text in changed(show_course(told)):
                seen.add(self.check(text) is None)
        self.assertEqual(seen, {True, False})

    def test_texts_that_are_none(self):
        for text in ["", "()", "L()", "(", ")", "L", "RL", "(L", "L)", ")L(", "(L) ", " (L)", "L (R)", "( L)", "((L))",
                     "(L)(R)",
                     "(L)R", "R(L)R", "L(R(L))", "(l)", "x(L)", "(Lx)", "-(L)", "(-)", "[L]", "(L,R)", "R[L]",
                     "~" * 3000,
                     "-; L>0 R>0 -", "(1 x + 0) / (0 x + 1)"]:
            self.assertIsNone(self.check(text))

    def test_long_courses(self):
        random = seeded(1422)
        for _ in range(10):
            # The ring is no row of shorter ones, and does not end as the road ahead does.
            told = (random_road(random, 1500) + "L", "R" + random_road(random, 1400) + "R")
            self.assertEqual(show_course(told), told[0] + "(" + told[1] + ")")
            self.assertEqual(show_course((told[0] + told[1] * 2, told[1] * 2)), show_course(told))
            self.check_reading(read_course, show_course(told), told)
            self.check_reading(read_course, told[0] + told[1][:1] + "(" + told[1][1:] + told[1][:1] + ")", None)
        self.check_reading(read_course, "L" * 2000 + "(R)", ("L" * 2000, "R"))
        self.check_reading(read_course, "L" * 1000 + "R(" + "LR" * 900 + ")", None)
        self.check_reading(read_course, "(" + "L" * 2998 + ")", None)

    def test_returned_courses(self):
        told = course_source(machine_of((12, 5, 0, 1)), ("", "RL"))
        self.assertEqual(read_course(show_course(told)) if told else None, told)
        self.assertEqual(read_map(show_map(behind((6, 1, 0, 1), (1, 0, 5, 6)))), behind((6, 1, 0, 1), (1, 0, 5, 6)))


if __name__ == "__main__":
    unittest.main()
