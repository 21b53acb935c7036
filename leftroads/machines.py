"""Machines: what they write, their least forms, and machines that are made of others."""

from leftroads.checks import check_course, check_machine, check_road
from leftroads.forms import least_form
from leftroads.roads import course
from leftroads.walks import read_on, read_rounds, write_all, write_rest


def run(machine, road):
    """Return what a machine writes for a road."""
    check_machine(machine)
    check_road(road)
    return write_all(machine, road)


def run_course(machine, told):
    """Return the course that a machine writes for one, None if it writes but finitely many turns."""
    check_machine(machine)
    check_course(told)
    first, rows = machine
    ahead, ring = told
    # The least form writes the same turns, only earlier.
    word, state = read_on(rows, 0, ahead)
    before, again = read_rounds(rows, state, ring)
    if again == "":
        return None
    return course(first + word + before, again)


def joined(one, other):
    """Return the least form of the machine that does what one does, then what the other one does with that."""
    check_machine(one)
    check_machine(other)
    first, start = read_on(other[1], 0, one[0])
    pairs = [(0, start)]
    numbers = {(0, start): 0}
    rows = []
    while len(rows) < len(pairs):
        state, reader = pairs[len(rows)]
        left, right, end = one[1][state]
        steps = []
        for word, follower in (left, right):
            written, led_to = read_on(other[1], reader, word)
            pair = (follower, led_to)
            if pair not in numbers:
                numbers[pair] = len(pairs)
                pairs.append(pair)
            steps.append((written, numbers[pair]))
        rows.append((steps[0], steps[1], write_rest(other[1], reader, end)))
    return least_form((other[0] + first, rows))


def least(machine):
    """Return the least form of a machine."""
    check_machine(machine)
    return least_form(machine)


def is_least(machine):
    """Return True if a machine is in its least form, otherwise False."""
    check_machine(machine)
    return least_form(machine) == machine


def cut_in(machine, road, other):
    """Return the least form of the machine that does what the other one does for the roads that begin with a road."""
    check_machine(machine)
    check_machine(other)
    check_road(road)
    if road == "":
        return least_form(other)
    # While the road may still be the one, nothing is written: the two machines
    # may write unlike turns, and the least form tells what of it is sure.
    inside = way_along(machine, road, other)
    at_machine = len(inside)
    at_other = at_machine + len(machine[1])
    return least_form(("", inside + moved_on(machine[1], at_machine) + moved_on(other[1], at_other)))


def way_along(machine, road, other):
    """Return the states along a road, before those of the machine that is left and of the one that is cut in."""
    held, rows = machine
    at_other = len(road) + len(rows)
    word, start = read_on(other[1], 0, road)
    state = 0
    way = []
    for at, turn in enumerate(road):
        left, right, end = rows[state]
        on = ("", at + 1) if at + 1 < len(road) else (other[0] + word, at_other + start)
        if turn == "L":
            way.append((on, (held + right[0], len(road) + right[1]), held + end))
            word_on, state = left
        else:
            way.append(((held + left[0], len(road) + left[1]), on, held + end))
            word_on, state = right
        held = held + word_on
    return way


def moved_on(rows, many):
    """Return states with numbers greater by so many."""
    return [((left_word, left + many), (right_word, right + many), end)
            for (left_word, left), (right_word, right), end in rows]
