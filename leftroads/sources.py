"""Sources: for which roads and courses a machine writes others, and the machine that takes back."""

from leftroads.checks import check_course, check_machine, check_road
from leftroads.forms import least_form
from leftroads.graphs import first_way, followers_in, number_of_ways, rounds_of
from leftroads.images import first_missed
from leftroads.inverses import are_told_apart, machine_back
from leftroads.places import first_road_writing, places_of_ends, places_on_course, places_on_road
from leftroads.roads import course


def first_source(machine, road):
    """Return the first road for which a machine writes a road, None if there is none."""
    check_machine(machine)
    check_road(road)
    first, rows = machine
    if not road.startswith(first):
        return None
    return first_road_writing(rows, (0, len(first)), road)


def number_of_sources(machine, road):
    """Return for how many roads a machine writes a road, None if they are endless many."""
    check_machine(machine)
    check_road(road)
    first, rows = machine
    if not road.startswith(first):
        return 0
    places, graph = places_on_road(rows, (0, len(first)), road)
    return number_of_ways(graph, places_of_ends(rows, places, road))


def course_source(machine, told):
    """Return a course for which a machine writes a course, None if there is none."""
    check_machine(machine)
    check_course(told)
    rows = machine[1]
    places, graph = places_on_course(machine, course(told[0], told[1]))
    shared = rounds_of(followers_in(graph))
    for node, own in enumerate(graph):
        for turn, follower in own:
            # A round at which nothing is written does not go on with the course.
            word = rows[places[node][0]]["LR".find(turn)][0]
            if word != "" and shared[node] == shared[follower]:
                return course(first_way(graph, 0, node), turn + first_way(graph, follower, node))
    return None


def misses(machine):
    """Return the first road that a machine writes for no road, None if there is none."""
    check_machine(machine)
    return first_missed(machine)


def undone(machine):
    """Return the least form of the machine that takes back what a machine does, None if there is none."""
    check_machine(machine)
    form = least_form(machine)
    if not are_told_apart(form[1]) or first_missed(form) is not None:
        return None
    return least_form(machine_back(form[1]))
