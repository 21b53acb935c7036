"""Rates: how many turns a machine writes to those that it reads while it comes round with a ring."""

from math import gcd

from leftroads.checks import check_course, check_machine
from leftroads.forms import least_form
from leftroads.roads import course
from leftroads.rounds import least_mean, least_round
from leftroads.walks import read_on


def rate(machine, told):
    """Return the rate of a course at a machine."""
    check_machine(machine)
    check_course(told)
    rows = machine[1]
    ahead, ring = told
    _, state = read_on(rows, 0, ahead)
    # How many turns are written, of how many that are read, when a state stands before the ring for the first time.
    written, read = 0, 0
    seen = {}
    while state not in seen:
        seen[state] = (written, read)
        word, state = read_on(rows, state, ring)
        written += len(word)
        read += len(ring)
    written_before, read_before = seen[state]
    return least_rate(written - written_before, read - read_before)


def least_rate(written, read):
    """Return the tuple of two integers without what divides both."""
    divisor = gcd(written, read)
    return (written // divisor, read // divisor)


def rates(machine):
    """Return the tuple of the least and the greatest rate of all courses."""
    check_machine(machine)
    rows = least_form(machine)[1]
    least_written, least_read = least_mean(costs_of(rows, 1))
    most_written, most_read = least_mean(costs_of(rows, -1))
    return (least_rate(least_written, least_read), least_rate(-most_written, most_read))


def costs_of(rows, factor):
    """Return for each state the list of its steps: so many times the turns that are written, the turn, what follows."""
    return [
        [(factor * len(left[0]), "L", left[1]), (factor * len(right[0]), "R", right[1])] for left, right, _ in rows]


def slowest(machine):
    """Return a course with the least rate."""
    check_machine(machine)
    ahead, ring = least_round(costs_of(least_form(machine)[1], 1))
    return course(ahead, ring)


def fastest(machine):
    """Return a course with the greatest rate."""
    check_machine(machine)
    ahead, ring = least_round(costs_of(least_form(machine)[1], -1))
    return course(ahead, ring)
