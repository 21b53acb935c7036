"""Roots of squares, told as roads."""

from math import gcd, isqrt


def ring_of_root(a, b, c):
    """Return the ring of the road to the root above 0 of a * x * x + b * x + c.

    It is for a above 0, c below 0 and a root that is no fraction.
    """
    # Behind each turn the rest of the road leads to the root of a square of
    # the same spread, again with a above 0 and c below 0. There are finitely
    # many of these and each one comes behind but one, so the first comes again.
    start = (a, b, c)
    turns = []
    while not turns or (a, b, c) != start:
        at_one = a + b + c
        if at_one < 0:
            turns.append("R")
            b, c = 2 * a + b, at_one
        else:
            turns.append("L")
            a, b = at_one, b + 2 * c
    return "".join(turns)


def course_of_root(a, b, c):
    """Return the course to (-b + the root of b * b - 4 * a * c) / (2 * a).

    It is for a root that is above 0 and no fraction; a may be below 0.
    """
    # The turns keep the spread, and the root that is told by it stays the one
    # with this sign. The road comes round once the other root is below 0.
    under_root = b * b - 4 * a * c
    turns = []
    while a * c > 0:
        at_one = a + b + c
        if is_above_one(a, b, under_root):
            turns.append("R")
            b, c = 2 * a + b, at_one
        else:
            turns.append("L")
            a, b = at_one, b + 2 * c
    return ("".join(turns), ring_of_root(a, b, c))


def is_above_one(a, b, under_root):
    """Return True if (-b + the root of a number) / (2 * a) is above 1."""
    bound = 2 * a + b
    is_root_greater = bound < 0 or under_root > bound * bound
    return is_root_greater == (a > 0)


def forms_of(number):
    """Return the tuples (a, b, c) without a common divisor, a above 0, c below 0, of a spread."""
    forms = []
    for b in range(-isqrt(number), isqrt(number) + 1):
        product, rest = divmod(number - b * b, 4)
        if rest == 0:
            forms.extend([
                (a, b, -(product // a)) for a in range(1, product + 1)
                if product % a == 0 and gcd(a, b, product // a) == 1])
    return forms
