"""Tables: what machines write for all short roads, and which machine it is."""

from leftroads.checks import check_above_zero, check_from_zero, check_machine, check_road
from leftroads.errors import InvalidNumber
from leftroads.forms import least_form
from leftroads.learning import machine_through
from leftroads.walks import write_all


def table_of(machine, length):
    """Return the list of what a machine writes for all roads of at most a length, in their order."""
    check_machine(machine)
    check_from_zero(length)
    return [write_all(machine, road) for road in roads_to(length)]


def roads_to(length):
    """Return the list of all roads of at most a length."""
    roads = [""]
    for at in range((1 << length) - 1):
        roads.append(roads[at] + "L")
        roads.append(roads[at] + "R")
    return roads


def machine_from(words, most):
    """Return the least form of the machine, of at most so many states, that writes words for all short roads.

    It is None if there is none.
    """
    check_above_zero(most)
    for word in words:
        check_road(word)
    if len(words) != (1 << (2 * most)) - 1:
        raise InvalidNumber(len(words))
    roads = roads_to(2 * most - 1)
    machine = machine_through({road: word for road, word in zip(roads, words)}, most)
    if machine is None or table_of(machine, 2 * most - 1) != words:
        return None
    return least_form(machine)
