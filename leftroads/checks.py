"""Checks of what is passed: each raises the error of the first thing that is wrong."""

from math import gcd

from leftroads.errors import InvalidFraction, InvalidMap, InvalidNumber, InvalidRoad


def check_road(road):
    """Raise InvalidRoad unless a text has the letters L and R alone."""
    if road.count("L") + road.count("R") != len(road):
        raise InvalidRoad(road)


def check_course(told):
    """Raise InvalidRoad unless both parts are roads and the ring is not empty."""
    ahead, ring = told
    check_road(ahead)
    check_road(ring)
    if ring == "":
        raise InvalidRoad(ring)


def check_turning_course(told):
    """Raise InvalidRoad unless it is a course with both turns in its ring."""
    check_course(told)
    ring = told[1]
    if "L" not in ring or "R" not in ring:
        raise InvalidRoad(ring)


def check_fraction(fraction):
    """Raise InvalidFraction unless both integers are above 0 and have no common divisor."""
    above, below = fraction
    if above < 1 or below < 1 or gcd(above, below) != 1:
        raise InvalidFraction(fraction)


def check_undivided_map(one):
    """Raise InvalidMap unless it is a map but for a common divisor of its integers."""
    a, b, c, d = one
    if min(a, b, c, d) < 0 or a * d == b * c:
        raise InvalidMap(one)


def check_map(one):
    """Raise InvalidMap unless it is a map."""
    check_undivided_map(one)
    a, b, c, d = one
    if gcd(a, b, c, d) != 1:
        raise InvalidMap(one)


def check_from_zero(number):
    """Raise InvalidNumber if an integer is below 0."""
    if number < 0:
        raise InvalidNumber(number)
