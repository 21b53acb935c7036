"""Roads, the fractions that they tell, and courses, which are endless roads that come round."""

from math import gcd

from leftroads.checks import check_course, check_fraction, check_from_zero, check_road, check_turning_course
from leftroads.matrices import matrix_of, times


def number_of(road):
    """Return the fraction that a road tells."""
    check_road(road)
    a, b, c, d = matrix_of(road)
    return (a + b, c + d)


def road_of(fraction):
    """Return the road that tells a fraction."""
    check_fraction(fraction)
    above, below = fraction
    runs = []
    while above != below:
        if above > below:
            many = (above - 1) // below
            runs.append("R" * many)
            above = above - many * below
        else:
            many = (below - 1) // above
            runs.append("L" * many)
            below = below - many * above
    return "".join(runs)


def compare(one, other):
    """Return -1, 0 or 1 if the one road tells less than the other one, the same, or more."""
    above, below = number_of(one)
    other_above, other_below = number_of(other)
    return order_of(above * other_below, other_above * below)


def order_of(one, other):
    """Return -1, 0 or 1 if the one is less than the other one, the same, or greater."""
    if one < other:
        return -1
    if one > other:
        return 1
    return 0


def course(ahead, ring):
    """Return the course of a road ahead and a ring in its least way."""
    check_course((ahead, ring))
    # A ring that is begun anew within two of them in a row is made of shorter ones.
    ring = ring[:(ring + ring).find(ring, 1)]
    while ahead != "" and ahead[-1] == ring[-1]:
        ahead = ahead[:-1]
        ring = ring[-1] + ring[:-1]
    return (ahead, ring)


def compare_courses(one, other):
    """Return -1, 0 or 1 if the one course leads to less than the other one, to the same, or to more."""
    check_turning_course(one)
    check_turning_course(other)
    # Two rings that agree for as many turns as both have together agree for ever.
    number = max(len(one[0]), len(other[0])) + len(one[1]) + len(other[1])
    return order_of(turns_of(one, number), turns_of(other, number))


def turns_of(told, number):
    """Return so many first turns of a course."""
    check_course(told)
    check_from_zero(number)
    ahead, ring = told
    rounds = number // len(ring) + 1
    return (ahead + ring * rounds)[:number]


def square_of(told):
    """Return the integers (a, b, c) of the square whose root a course leads to."""
    check_turning_course(told)
    ahead, ring = told
    a, b, c, d = matrix_of(ahead)
    # Back along the road ahead, round the ring, and along the road again leads to the same number.
    round_way = times(times((a, b, c, d), matrix_of(ring)), (d, -b, -c, a))
    e, f, g, h = round_way
    divisor = gcd(g, h - e, f)
    if g < 0:
        divisor = -divisor
    return (g // divisor, (h - e) // divisor, -f // divisor)
