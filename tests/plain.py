"""What the tests work out on their own, step by step, to hold the program against it."""

from fractions import Fraction
from itertools import product
from math import gcd
from os.path import commonprefix
from random import Random


def asked(function, **named):
    """Ask by position and by name; both must answer the same."""
    by_name = function(**named)
    by_place = function(*named.values())
    if by_name != by_place:
        raise AssertionError(f"{function.__name__} by name: {by_name}, by position: {by_place}")
    return by_name


def all_roads(most):
    """All roads of at most so many turns, in their order."""
    return ["".join(turns) for length in range(most + 1) for turns in product("LR", repeat=length)]


def random_road(random, length):
    return "".join(random.choice("LR") for _ in range(length))


def ends_of(road):
    """The two neighbours between which a road leads, by the tree of mediants."""
    low, high = (0, 1), (1, 0)
    for turn in road:
        middle = (low[0] + high[0], low[1] + high[1])
        if turn == "L":
            high = middle
        else:
            low = middle
    return low, high


def told(road):
    """The fraction that a road tells."""
    low, high = ends_of(road)
    return (low[0] + high[0], low[1] + high[1])


def road_between(least, most):
    """The road to the first fraction of the tree that is from the least number to the most one."""
    low, high = (0, 1), (1, 0)
    turns = []
    while True:
        middle = (low[0] + high[0], low[1] + high[1])
        if middle[0] * least[1] < least[0] * middle[1]:
            turns.append("R")
            low = middle
        elif middle[0] * most[1] > most[0] * middle[1]:
            turns.append("L")
            high = middle
        else:
            return "".join(turns)


def road_to(fraction):
    return road_between(fraction, fraction)


def pair(number):
    return (number.numerator, number.denominator)


def moved(one, fraction):
    """Where a map sends a fraction."""
    a, b, c, d = one
    x = Fraction(*fraction)
    return pair((a * x + b) / (c * x + d))


def road_moved(one, road):
    return road_to(moved(one, told(road)))


def measure(one):
    a, b, c, d = one
    return a * d - b * c


def is_map(one):
    return min(one) >= 0 and measure(one) != 0 and gcd(*one) == 1


def all_maps(greatest):
    return [one for one in product(range(greatest + 1), repeat=4) if is_map(one)]


def random_map(random, greatest):
    """Any map with integers to a greatest one."""
    while True:
        one = tuple(random.choice((0, 1, random.randint(0, greatest), greatest)) for _ in range(4))
        if is_map(one):
            return one


def random_map_of_size(random, greatest, number):
    """A map of a size with integers to a greatest one."""
    while True:
        a, b, c = random.randint(1, greatest), random.randint(0, greatest), random.randint(0, greatest)
        d, rest = divmod(number + b * c, a)
        if rest == 0 and 0 <= d <= greatest and is_map((a, b, c, d)):
            return (a, b, c, d)


def random_fraction(random, greatest):
    while True:
        above, below = random.randint(1, greatest), random.randint(1, greatest)
        if gcd(above, below) == 1:
            return (above, below)


def led(machine, road, state=0):
    """What a machine writes at the turns of a road from a state on, and the state that follows."""
    words = []
    for turn in road:
        word, state = machine[1][state]["LR".index(turn)]
        words.append(word)
    return "".join(words), state


def written(machine, road, state=0):
    """What a machine writes for a road from a state on, the end too, but not what is written first."""
    word, state = led(machine, road, state)
    return word + machine[1][state][2]


def endless(course, number):
    """So many first turns of a course, turn by turn."""
    ahead, ring = course
    turns = list(ahead)
    while len(turns) < number:
        turns.append(ring[(len(turns) - len(ahead)) % len(ring)])
    return "".join(turns[:number])


def least_way(course):
    """The least way of a course: the shortest ring, then the shortest road ahead, that go on as it does."""
    ahead, ring = course
    text = endless(course, len(ahead) + 3 * len(ring))
    for length in range(1, len(ring) + 1):
        for at in range(len(ahead) + 1):
            if text[at:-length] == text[at + length:]:
                return (text[:at], text[at:at + length])
    raise AssertionError(course)


def common_beginning(words):
    return commonprefix(words)


def sign(number):
    return (number > 0) - (number < 0)


def turning_rings(most):
    return [ring for ring in all_roads(most) if "L" in ring and "R" in ring]


def parts(value):
    """A value and everything within it."""
    found = [value]
    if isinstance(value, (list, tuple)):
        for each in value:
            found.extend(parts(each))
    return found


def seeded(number):
    return Random(number)
