"""Maps x to (a * x + b) / (c * x + d), their machines, and what they send to itself."""

from math import gcd, isqrt

from leftroads.checks import check_fraction, check_map, check_turning_course, check_undivided_map
from leftroads.matrices import matrix_of, times
from leftroads.roads import course, road_of
from leftroads.roots import ring_of_root


def least_map(a, b, c, d):
    """Return the map with these integers, divided by what divides all of them."""
    check_undivided_map((a, b, c, d))
    divisor = gcd(a, b, c, d)
    return (a // divisor, b // divisor, c // divisor, d // divisor)


def size(one):
    """Return the size of a map."""
    check_map(one)
    a, b, c, d = one
    return a * d - b * c


def sent(one, fraction):
    """Return the fraction to which a map sends one."""
    check_map(one)
    check_fraction(fraction)
    a, b, c, d = one
    above, below = fraction
    return fraction_above_zero(a * above + b * below, c * above + d * below)


def fraction_above_zero(above, below):
    """Return the fraction with the value above / below, None if there is none above 0."""
    if above * below <= 0:
        return None
    divisor = gcd(above, below)
    return (abs(above) // divisor, abs(below) // divisor)


def behind(one, other):
    """Return the map that does one, then the other one."""
    check_map(one)
    check_map(other)
    a, b, c, d = times(other, one)
    return least_map(a, b, c, d)


def turned(one):
    """Return the map that sends back what a map sends, None if it would have integers below 0."""
    check_map(one)
    a, b, c, d = one
    if b == 0 and c == 0:
        return (d, 0, 0, a)
    if a == 0 and d == 0:
        return (0, b, c, 0)
    return None


def before(one, fraction):
    """Return the fraction that a map sends to this one, None if there is none."""
    check_map(one)
    check_fraction(fraction)
    a, b, c, d = one
    above, below = fraction
    return fraction_above_zero(d * above - b * below, a * below - c * above)


def machine_of(one):
    """Return the least form of the machine that does with roads what a map does with their fractions."""
    check_map(one)
    first, start = settled(one)
    return (first, rows_of_standings(standings_from([start])))


def standings(one):
    """Return the list of the maps that stand at the states of the machine of a map."""
    check_map(one)
    return list(standings_from([settled(one)[1]]))


def settled(one):
    """Return the road that is sure whatever a map is sent, and the map that stands when it is written."""
    a, b, c, d = one
    turns = []
    # Where one row is nowhere less than the other one, all that the map sends to
    # lies on one side of 1, so that the next turn is sure.
    while (a - c) * (b - d) >= 0:
        if a + b > c + d:
            turns.append("R")
            a, b = a - c, b - d
        else:
            turns.append("L")
            c, d = c - a, d - b
    return "".join(turns), (a, b, c, d)


def standings_from(starts):
    """Return the dict of the standings from some on, in their order, each with its steps for L and R."""
    # Unlike maps are never alike, so that no two standings could share a state.
    steps = {start: [] for start in starts}
    found = list(steps)
    at = 0
    while at < len(found):
        one = found[at]
        at += 1
        for turn in "LR":
            word, standing = settled(times(one, matrix_of(turn)))
            if standing not in steps:
                steps[standing] = []
                found.append(standing)
            steps[one].append((word, standing))
    return steps


def rows_of_standings(steps):
    """Return the list of the states that stand for standings, by the dict of their steps."""
    numbers = {standing: number for number, standing in enumerate(steps)}
    rows = []
    for standing, own in steps.items():
        left, right = [(word, numbers[follower]) for word, follower in own]
        rows.append((left, right, road_of(sent(standing, (1, 1)))))
    return rows


def course_sent(one, told):
    """Return the course to which a map sends one with both turns in its ring."""
    check_map(one)
    check_turning_course(told)
    ahead, ring = told
    written, standing = settled(times(one, matrix_of(ahead)))
    # How much is written when a map stands before the ring for the first time:
    # when it stands there again, all that was written since comes round for ever.
    lengths = {}
    while standing not in lengths:
        lengths[standing] = len(written)
        word, standing = settled(times(standing, matrix_of(ring)))
        written = written + word
    length = lengths[standing]
    return course(written[:length], written[length:])


def fixed(one):
    """Return the list of what a map sends to itself, None if that is all."""
    check_map(one)
    if one == (1, 0, 0, 1):
        return None
    a, b, c, d = one
    if c == 0:
        return list_of(fraction_above_zero(b, d - a))
    spread = (d - a) ** 2 + 4 * b * c
    root = isqrt(spread)
    if root * root == spread:
        return list_of(fraction_above_zero(a - d + root, 2 * c))
    return [("", ring_of_root(c, d - a, -b))]


def list_of(fraction):
    """Return the list of a fraction, the empty one for None."""
    if fraction is None:
        return []
    return [fraction]
