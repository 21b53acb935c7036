"""Machines compared: with one another, with maps, and what one of them writes for unlike roads."""

from leftroads.checks import check_machine
from leftroads.fits import does_map, map_through
from leftroads.forms import least_form
from leftroads.pairs import first_fall, first_parting, first_two_alike
from leftroads.roads import number_of
from leftroads.traces import have_same_traces
from leftroads.walks import write_all


def alike(one, other):
    """Return True if two machines write the same for every road, otherwise False."""
    check_machine(one)
    check_machine(other)
    return least_form(one) == least_form(other)


def first_unlike(one, other):
    """Return the first road for which two machines do not write the same, None if there is none."""
    check_machine(one)
    check_machine(other)
    return first_parting(one, other)


def agree(one, other):
    """Return True if two machines write the same turns for every course, otherwise False."""
    check_machine(one)
    check_machine(other)
    return have_same_traces(least_form(one), least_form(other))


def map_of(machine):
    """Return the map whose machine a machine is alike to, None if there is none."""
    check_machine(machine)
    # Only one map fits three numbers; it is that of the machine, or none is.
    roads = ["L", "", "R"]
    one = map_through([number_of(road) for road in roads], [number_of(write_all(machine, road)) for road in roads])
    if one is None or not does_map(machine, one):
        return None
    return one


def falls(machine):
    """Return two roads, the first one telling less, for which what is written is not so; None if there are none."""
    check_machine(machine)
    return first_fall(least_form(machine)[1])


def same_written(machine):
    """Return two unlike roads for which a machine writes the same, None if there are none."""
    check_machine(machine)
    return first_two_alike(least_form(machine)[1])
