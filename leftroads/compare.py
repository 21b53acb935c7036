"""Machines compared: with one another, with maps, and what one of them writes for unlike roads."""

from leftroads.checks import check_machine
from leftroads.fits import map_from
from leftroads.forms import least_form
from leftroads.matrices import matrix_of, times
from leftroads.pairs import first_fall, first_parting, first_two_alike
from leftroads.traces import have_same_traces


def alike(one, other):
    """Return True if two machines write the same for every road, otherwise False."""
    check_machine(one)
    check_machine(other)
    return least_form(one) == least_form(other)


def first_unlike(one, other):
    """Return the first road for which two machines do not write the same, None if there is none."""
    check_machine(one)
    check_machine(other)
    return first_parting(one, other)


def agree(one, other):
    """Return True if two machines write the same turns for every course, otherwise False."""
    check_machine(one)
    check_machine(other)
    return have_same_traces(least_form(one), least_form(other))


def map_of(machine):
    """Return the map whose machine a machine is alike to, None if there is none."""
    check_machine(machine)
    first, rows = machine
    # All that begins with the first road is sent there by a map only if the rest is sent by one.
    one = map_from(rows, 0)
    if one is None:
        return None
    return times(matrix_of(first), one)


def falls(machine):
    """Return two roads, the first one telling less, for which what is written is not so; None if there are none."""
    check_machine(machine)
    return first_fall(least_form(machine)[1])


def same_written(machine):
    """Return two unlike roads for which a machine writes the same, None if there are none."""
    check_machine(machine)
    return first_two_alike(least_form(machine)[1])
