"""Squares: what their roots are as roads, and which rings and maps belong to them."""

from math import gcd, isqrt

from leftroads.checks import check_from_zero, check_no_square_number, check_square
from leftroads.roads import course, square_of
from leftroads.roots import course_of_root, forms_of, ring_of_root


def roots_of(square):
    """Return the ascending list of the fractions and courses that are roots of a square."""
    check_square(square)
    a, b, c = square
    under_root = b * b - 4 * a * c
    if under_root < 0:
        return []
    root = isqrt(under_root)
    if root * root == under_root:
        return fractions_above_zero([-b - root, -b + root], 2 * a)
    if c < 0:
        return [course_of_root(a, b, c)]
    if b < 0:
        return [course_of_root(-a, -b, -c), course_of_root(a, b, c)]
    return []


def fractions_above_zero(aboves, below):
    """Return the list of the fractions above 0 among some with one integer below, each once."""
    found = []
    for above in aboves:
        divisor = gcd(above, below)
        fraction = (above // divisor, below // divisor)
        if above > 0 and fraction not in found:
            found.append(fraction)
    return found


def other_root(told):
    """Return the course to the other root of the square of a course, None if it is not above 0."""
    square = square_of(told)
    own = course(told[0], told[1])
    for root in roots_of(square):
        if root != own:
            return root
    return None


def spread(told):
    """Return what stands under the root of the square of a course."""
    a, b, c = square_of(told)
    return b * b - 4 * a * c


def rings(number):
    """Return the list of the rings of all courses of a spread."""
    check_no_square_number(number)
    found = {}
    for a, b, c in forms_of(number):
        found[least_turned(ring_of_root(a, b, c))] = True
    return sorted(found, key=lambda ring: (len(ring), ring))


def least_turned(ring):
    """Return a ring from the turn on at which it is least."""
    return min([ring[at:] + ring[:at] for at in range(len(ring))])


def fixing(told, most):
    """Return the ascending list of the maps with integers to a greatest one that send a course to itself."""
    a, b, c = square_of(told)
    check_from_zero(most)
    # A map sends a number to itself where it is a root of the square of the map,
    # which is then so many times the square of the course.
    found = []
    for many in range(most + 1):
        for start in range(most + 1):
            one = (start, -many * c, many * a, start + many * b)
            if min(one) >= 0 and max(one) <= most and gcd(start, many) == 1:
                found.append(one)
    return sorted(found)
