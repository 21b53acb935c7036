"""Tuples (a, b, c, d) that send x to (a * x + b) / (c * x + d), put one behind the other.

They are maps, or the same with integers below 0 or with a common divisor.
"""


def times(one, other):
    """Return the tuple that does the other one first, then the one."""
    a, b, c, d = one
    e, f, g, h = other
    return (a * e + b * g, a * f + b * h, c * e + d * g, c * f + d * h)


def matrix_of(road):
    """Return the map from the number of the rest of a road to the number of this road and the rest."""
    a, b, c, d = 1, 0, 0, 1
    for turn in road:
        if turn == "L":
            a, c = a + b, c + d
        else:
            b, d = a + b, c + d
    return (a, b, c, d)
