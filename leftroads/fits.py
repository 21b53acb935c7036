"""Maps that fit what a machine writes."""

from math import gcd

from leftroads.matrices import matrix_of, times
from leftroads.roads import number_of


def map_through(numbers):
    """Return the map that sends 1 / 2, 1 and 2 to three fractions, None if there is none."""
    low, middle, high = numbers
    low_share = crossed(middle, high)
    high_share = crossed(low, middle)
    # What 1 / 2 and 2 are sent to, each taken so often that both together are
    # what 1 is sent to, tells what 0 and the endless number are sent to.
    one = (
        2 * high_share * high[0] - low_share * low[0], 2 * low_share * low[0] - high_share * high[0],
        2 * high_share * high[1] - low_share * low[1], 2 * low_share * low[1] - high_share * high[1])
    if max(one) <= 0:
        a, b, c, d = one
        one = (-a, -b, -c, -d)
    a, b, c, d = one
    if min(one) < 0 or a * d == b * c:
        return None
    divisor = gcd(a, b, c, d)
    return (a // divisor, b // divisor, c // divisor, d // divisor)


def crossed(one, other):
    """Return above 0, 0 or below 0 if the one fraction is greater, the same or less."""
    return one[0] * other[1] - other[0] * one[1]


def does_map(machine, one):
    """Return True if a machine writes what a map sends for every road, otherwise False."""
    first, rows = machine
    # What stands between the rest of the road and the rest that is to be written
    # has no common divisor and no other sign, so that it is told in one way.
    standing = {0: without_road(first, one)}
    found = [0]
    at = 0
    while at < len(found):
        state = found[at]
        at += 1
        a, b, c, d = standing[state]
        if crossed((a + b, c + d), number_of(rows[state][2])) != 0:
            return False
        for turn, (word, follower) in zip("LR", rows[state][:2]):
            behind_turn = without_road(word, times((a, b, c, d), matrix_of(turn)))
            if follower not in standing:
                standing[follower] = behind_turn
                found.append(follower)
            elif standing[follower] != behind_turn:
                return False
    return True


def without_road(road, one):
    """Return what is behind a road in all that a map sends."""
    a, b, c, d = matrix_of(road)
    return times((d, -b, -c, a), one)
