"""Maps that fit what a machine writes."""

from math import gcd

from leftroads.matrices import matrix_of, times
from leftroads.roads import number_of
from leftroads.walks import write_rest


def map_through(ahead, behind):
    """Return the map that sends three unlike fractions ahead to three behind, None if there is none."""
    one, other, third = ahead
    one_behind, other_behind, third_behind = behind
    # The third one is the two others, each so many times, put together; so it
    # is behind, which tells how often the map takes what it sends both to.
    one_share = crossed(third_behind, other_behind) * crossed(one, third)
    other_share = crossed(one_behind, third_behind) * crossed(third, other)
    a, b, c, d = times(
        (one_share * one_behind[0], other_share * other_behind[0],
         one_share * one_behind[1], other_share * other_behind[1]),
        (other[1], -other[0], -one[1], one[0]))
    if max(a, b, c, d) <= 0:
        a, b, c, d = -a, -b, -c, -d
    if min(a, b, c, d) < 0 or a * d == b * c:
        return None
    divisor = gcd(a, b, c, d)
    return (a // divisor, b // divisor, c // divisor, d // divisor)


def crossed(one, other):
    """Return above 0, 0 or below 0 if the one fraction is greater, the same or less."""
    return one[0] * other[1] - other[0] * one[1]


def map_from(rows, state):
    """Return the map that a machine does with all roads from a state on, None if there is none."""
    # Only one map fits three numbers; it is that of the state, or none is.
    roads = ["L", "", "R"]
    one = map_through(
        [number_of(road) for road in roads], [number_of(write_rest(rows, state, road)) for road in roads])
    if one is None or not does_map(rows, state, one):
        return None
    return one


def does_map(rows, start, one):
    """Return True if from a state on a machine writes what a map sends for every road, otherwise False."""
    # What stands between the rest of the road and the rest that is to be written
    # has no common divisor and no other sign, so that it is told in one way.
    standing = {start: one}
    found = [start]
    at = 0
    while at < len(found):
        state = found[at]
        at += 1
        a, b, c, d = standing[state]
        if crossed((a + b, c + d), number_of(rows[state][2])) != 0:
            return False
        for turn, (word, follower) in zip("LR", rows[state][:2]):
            behind_turn = without_road(word, times((a, b, c, d), matrix_of(turn)))
            if follower not in standing:
                standing[follower] = behind_turn
                found.append(follower)
            elif standing[follower] != behind_turn:
                return False
    return True


def without_road(road, one):
    """Return what is behind a road in all that a map sends."""
    a, b, c, d = matrix_of(road)
    return times((d, -b, -c, a), one)
