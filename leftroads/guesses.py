"""Guesses: which maps fit what was seen, and which fraction tells maps apart."""

from itertools import product
from math import gcd

from leftroads.checks import check_fraction, check_from_zero, check_map
from leftroads.errors import InvalidNumber
from leftroads.fits import crossed, map_through
from leftroads.maps import sent
from leftroads.roads import number_of


def fitting(seen, most):
    """Return the ascending list of the maps with integers to a greatest one that send each fraction as it was seen."""
    check_seen(seen)
    check_from_zero(most)
    numbers = list(range(most + 1))
    return [
        (a, b, c, d) for a, b, c, d in product(numbers, numbers, numbers, numbers)
        if gcd(a, b, c, d) == 1 and a * d != b * c and fits((a, b, c, d), seen)]


def check_seen(seen):
    """Raise InvalidFraction for the first of the fractions that is none."""
    for one, other in seen:
        check_fraction(one)
        check_fraction(other)


def fits(one, seen):
    """Return True if a map sends each fraction as it was seen."""
    a, b, c, d = one
    return all([
        crossed((a * above + b * below, c * above + d * below), behind) == 0 for (above, below), behind in seen])


def told_back(seen):
    """Return the only map that sends each fraction as it was seen, None if there is none."""
    check_seen(seen)
    sent_to = {one: other for one, other in seen}
    if len(sent_to) < 3:
        raise InvalidNumber(len(sent_to))
    unlike = list(sent_to)[:3]
    one = map_through(unlike, [sent_to[fraction] for fraction in unlike])
    if one is None or not fits(one, seen):
        return None
    return one


def parting(maps):
    """Return the fraction with the first road that no two of a list of unlike maps send to the same one."""
    for one in maps:
        check_map(one)
    # Two unlike maps send at most two fractions to the same one, so that a short road is found.
    roads = [""]
    at = 0
    while not are_parted(maps, number_of(roads[at])):
        roads.append(roads[at] + "L")
        roads.append(roads[at] + "R")
        at += 1
    return number_of(roads[at])


def are_parted(maps, fraction):
    """Return True if no two maps send a fraction to the same one."""
    return len({sent(one, fraction) for one in maps}) == len(maps)
