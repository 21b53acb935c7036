"""Checks of what is passed: each raises the error of the first thing that is wrong."""

from math import gcd, isqrt

from leftroads.errors import (
    InvalidBook, InvalidFraction, InvalidMachine, InvalidMap, InvalidNumber, InvalidRoad, InvalidSquare)


def is_road(text):
    """Return True if a text has the letters L and R alone."""
    return text.count("L") + text.count("R") == len(text)


def check_road(road):
    """Raise InvalidRoad unless a text is a road."""
    if not is_road(road):
        raise InvalidRoad(road)


def check_course(told):
    """Raise InvalidRoad unless both parts are roads and the ring is not empty."""
    ahead, ring = told
    check_road(ahead)
    check_road(ring)
    if ring == "":
        raise InvalidRoad(ring)


def check_turning_course(told):
    """Raise InvalidRoad unless it is a course with both turns in its ring."""
    check_course(told)
    ring = told[1]
    if "L" not in ring or "R" not in ring:
        raise InvalidRoad(ring)


def is_fraction(fraction):
    """Return True if both integers are above 0 and have no common divisor."""
    above, below = fraction
    return above > 0 and below > 0 and gcd(above, below) == 1


def check_fraction(fraction):
    """Raise InvalidFraction unless a tuple is a fraction."""
    if not is_fraction(fraction):
        raise InvalidFraction(fraction)


def is_undivided_map(one):
    """Return True if a tuple is a map but for a common divisor of its integers."""
    a, b, c, d = one
    return min(a, b, c, d) >= 0 and a * d != b * c


def check_undivided_map(one):
    """Raise InvalidMap unless a tuple is a map but for a common divisor of its integers."""
    if not is_undivided_map(one):
        raise InvalidMap(one)


def is_map(one):
    """Return True if a tuple is a map."""
    a, b, c, d = one
    return is_undivided_map(one) and gcd(a, b, c, d) == 1


def check_map(one):
    """Raise InvalidMap unless a tuple is a map."""
    if not is_map(one):
        raise InvalidMap(one)


def check_from_zero(number):
    """Raise InvalidNumber if an integer is below 0."""
    if number < 0:
        raise InvalidNumber(number)


def check_above_zero(number):
    """Raise InvalidNumber if an integer is below 1."""
    if number < 1:
        raise InvalidNumber(number)


def check_no_square_number(number):
    """Raise InvalidNumber if an integer is below 1 or a square number."""
    check_above_zero(number)
    if isqrt(number) ** 2 == number:
        raise InvalidNumber(number)


def check_square(square):
    """Raise InvalidSquare if the first integer is below 1."""
    if square[0] < 1:
        raise InvalidSquare(square)


def check_machine(machine):
    """Raise InvalidMachine, with a machine of a new list, unless it is a machine."""
    first, rows = machine
    if rows == [] or not is_road(first) or not all([is_state(row, len(rows)) for row in rows]):
        raise InvalidMachine((first, list(rows)))


def is_state(row, many):
    """Return True if a row writes roads alone and leads to states of so many alone."""
    (left_word, left), (right_word, right), end = row
    if not (0 <= left < many and 0 <= right < many):
        return False
    return is_road(left_word) and is_road(right_word) and is_road(end)


def check_book(book):
    """Raise InvalidBook, with a new list, unless a list is a book."""
    if not is_book(book):
        raise InvalidBook(list(book))


def is_book(book):
    """Return True if the entries of a list stand in their order and every road is told by just one of them."""
    numbers = {}
    last = (-1, "")
    for road, told in book:
        place = (len(road), road)
        if not is_road(road) or place <= last or not is_told(told):
            return False
        last = place
        numbers[road] = len(told)
    return "" in numbers and all([is_told_once(road, numbers) for road in numbers])


def is_told(told):
    """Return True if a tuple is a fraction or a map."""
    return is_fraction(told) if len(told) == 2 else is_map(told)


def is_told_once(road, numbers):
    """Return True if a road is behind one that is told alone, and is told alone exactly if both behind it are told.

    How many integers stand with each road tells which ones are told alone.
    """
    is_behind = road == "" or numbers.get(road[:-1]) == 2
    if numbers[road] == 2:
        return is_behind and road + "L" in numbers and road + "R" in numbers
    return is_behind
