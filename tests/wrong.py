"""Wrong inputs of each kind, and the checks of what is raised for them."""

from itertools import product

from leftroads import errors
from leftroads.errors import (
    InvalidFraction, InvalidMachine, InvalidNumber, InvalidRoad, InvalidSquare, RoadError)
from leftroads.maps import machine_of
from tests.plain import parts

PLAIN = ("", [(("L", 0), ("R", 0), "")])
RIGHT_MACHINES = [PLAIN, machine_of((2, 0, 0, 1))]
STATE = (("L", 0), ("RL", 1), "R")


def with_state(state):
    return ("R", [STATE, state])


# Without states, with a text that is no road at each place, and with states that there are not.
WRONG_MACHINES = [("", []), ("RL", []), ("X", [])] + [(first, [STATE, STATE]) for first in ("x", "RL ", "R1", "LM")]
WRONG_MACHINES += [with_state(state) for word in ("X", "l", "RLr", " L", "-", "LxR") for state in [
    ((word, 0), ("R", 1), "L"), (("L", 0), (word, 1), ""), (("L", 1), ("", 0), word)]]
WRONG_MACHINES += [with_state(state) for number in (-1, -2, 2, 3, 40, -10 ** 9) for state in [
    (("L", number), ("R", 1), "L"), (("L", 0), ("", number), "")]]
WRONG_MACHINES += [
    ("", [(("L", 1), ("R", 0), "")]), ("", [(("L", 0), ("R", 1), "")]), ("", [(("L", -1), ("R", 0), "")]),
    ("", [(("L", 0), ("Q", 7), "M")]), ("M", [(("M", 9), ("N", -9), "M")])]
FEW_MACHINES = [
    ("", []), ("x", [STATE, STATE]), with_state((("L", 2), ("R", 0), "")), with_state((("L", 0), ("R", 0), "r"))]

WRONG_ROADS = ["X", "l", "RLr", "xRL", "RL ", "LXR", "L1R", "-", "M", "LMR", "R" * 59 + "x", "(RL)", "~"]
FEW_ROADS = ["X", "RLr", " "]
MACHINE = (RIGHT_MACHINES, WRONG_MACHINES, InvalidMachine)
FEW_OF_MACHINES = (RIGHT_MACHINES, FEW_MACHINES, InvalidMachine)
ROAD = (["", "RL"], WRONG_ROADS, InvalidRoad)
RING = (["R", "LLR"], WRONG_ROADS + [""], InvalidRoad)
TURNING_RING = (["LR", "RRLRRL"], WRONG_ROADS + ["", "L", "R", "LLL", "RRRRRR"], InvalidRoad)
FROM_ZERO = ([0, 3], [-1, -2, -10 ** 30], InvalidNumber)
MODULUS = ([1, 10 ** 9], [0, -1, -7], InvalidNumber)
FRACTION = ([(1, 1), (10 ** 9, 618033987)], [(0, 1), (1, 0), (0, 0), (-1, 2), (1, -2), (-1, -1), (2, 2), (6, 4)],
            InvalidFraction)
SQUARE = ([(1, -1, -1), (60, 0, 0)], [(0, 1, 1), (-1, 1, 1), (0, 0, 0), (-60, 60, 60), (0, -3, 1)], InvalidSquare)
RING_NUMBER = ([2, 5, 999], [0, -1, -5, -4, 1, 4, 9, 16, 100, 961, 900], InvalidNumber)


def named(*names):
    return lambda *values: dict(zip(names, values))


def course_behind(*names):
    """The last two values are the road ahead and the ring of a course."""
    return lambda *values: {**dict(zip(names, values[:-2])), "told": values[-2:]}


class Wrongs:
    """What the tests of wrong inputs share; it stands beside TestCase."""

    def check(self, function, arguments, error, value):
        for places, names in (((), arguments), (tuple(arguments.values()), {})):
            with self.assertRaises(RoadError) as caught:
                function(*places, **names)
            self.check_error(caught.exception, error, value)
            self.check_new_lists(caught.exception.value, list(arguments.values()))

    def check_error(self, raised, error, value):
        self.assertIs(type(raised), error)
        self.assertIsInstance(raised, ValueError)
        self.assertIs(type(raised.value), type(value))
        self.assertEqual(raised.value, value)
        for other in vars(errors).values():
            if isinstance(other, type) and other not in (error, RoadError):
                self.assertNotIsInstance(raised, other)

    def check_new_lists(self, value, passed):
        """No list of what an error holds is one that was passed, and none stands in two places."""
        own = [id(part) for part in parts(value) if isinstance(part, list)]
        self.assertEqual(len(set(own)), len(own))
        self.assertFalse(set(own) & {id(part) for part in parts(passed) if isinstance(part, list)})

    def expected(self, kinds, values):
        """The error of the first value that is wrong, None if all are right."""
        for (_, wrong, error), value in zip(kinds, values):
            if value in wrong:
                return error, value
        return None

    def check_all(self, questions):
        """Ask each question with right and wrong inputs in every place and in several at once."""
        for function, kinds, arguments in questions:
            with self.subTest(function=function.__name__):
                for values in product(*(right + wrong for right, wrong, _ in kinds)):
                    expected = self.expected(kinds, values)
                    if expected is None:
                        function(**arguments(*values))
                    else:
                        self.check(function, arguments(*values), *expected)
