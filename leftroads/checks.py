"""Checks of what is passed: each raises the error of the first thing that is wrong."""

from math import gcd, isqrt

from leftroads.errors import (
    InvalidFraction, InvalidMachine, InvalidMap, InvalidNumber, InvalidRoad, InvalidSquare)


def is_road(text):
    """Return True if a text has the letters L and R alone."""
    return text.count("L") + text.count("R") == len(text)


def check_road(road):
    """Raise InvalidRoad unless a text is a road."""
    if not is_road(road):
        raise InvalidRoad(road)


def check_course(told):
    """Raise InvalidRoad unless both parts are roads and the ring is not empty."""
    ahead, ring = told
    check_road(ahead)
    check_road(ring)
    if ring == "":
        raise InvalidRoad(ring)


def check_turning_course(told):
    """Raise InvalidRoad unless it is a course with both turns in its ring."""
    check_course(told)
    ring = told[1]
    if "L" not in ring or "R" not in ring:
        raise InvalidRoad(ring)


def check_fraction(fraction):
    """Raise InvalidFraction unless both integers are above 0 and have no common divisor."""
    above, below = fraction
    if above < 1 or below < 1 or gcd(above, below) != 1:
        raise InvalidFraction(fraction)


def check_undivided_map(one):
    """Raise InvalidMap unless it is a map but for a common divisor of its integers."""
    a, b, c, d = one
    if min(a, b, c, d) < 0 or a * d == b * c:
        raise InvalidMap(one)


def check_map(one):
    """Raise InvalidMap unless it is a map."""
    check_undivided_map(one)
    a, b, c, d = one
    if gcd(a, b, c, d) != 1:
        raise InvalidMap(one)


def check_from_zero(number):
    """Raise InvalidNumber if an integer is below 0."""
    if number < 0:
        raise InvalidNumber(number)


def check_above_zero(number):
    """Raise InvalidNumber if an integer is below 1."""
    if number < 1:
        raise InvalidNumber(number)


def check_no_square_number(number):
    """Raise InvalidNumber if an integer is below 1 or a square number."""
    check_above_zero(number)
    if isqrt(number) ** 2 == number:
        raise InvalidNumber(number)


def check_square(square):
    """Raise InvalidSquare if the first integer is below 1."""
    if square[0] < 1:
        raise InvalidSquare(square)


def check_machine(machine):
    """Raise InvalidMachine, with a machine of a new list, unless it is a machine."""
    first, rows = machine
    if rows == [] or not is_road(first) or not all([is_state(row, len(rows)) for row in rows]):
        raise InvalidMachine((first, list(rows)))


def is_state(row, many):
    """Return True if a row writes roads alone and leads to states of so many alone."""
    (left_word, left), (right_word, right), end = row
    if not (0 <= left < many and 0 <= right < many):
        return False
    return is_road(left_word) and is_road(right_word) and is_road(end)
