"""How far a road, or a course, that is to be written is written, at each state of a machine.

A place is a tuple (state, number of turns that are written).
"""

from leftroads.graphs import first_way, graph_from


def places_on_road(rows, start, road):
    """Return the list of the places that can be come to from a first one while a road is written, and its graph."""

    def steps_of(place):
        state, done = place
        return [
            (turn, (follower, done + len(word)))
            for turn, (word, follower) in zip("LR", rows[state][:2]) if road.startswith(word, done)]

    return graph_from(start, steps_of)


def places_of_ends(rows, places, road):
    """Return the list of the numbers of the places at which an end completes a road."""
    return [number for number, (state, done) in enumerate(places) if rows[state][2] == road[done:]]


def first_road_writing(rows, start, road):
    """Return the first road from a place on for which a road is completed, None if there is none."""
    places, graph = places_on_road(rows, start, road)
    ends = places_of_ends(rows, places, road)
    if ends == []:
        return None
    # The places stand in the order of the first roads to them.
    return first_way(graph, 0, ends[0])


def places_on_course(machine, told):
    """Return the list of the places that can be come to while a course is written, and its graph.

    A turn of the ring is told by its number when it comes first.
    """
    first, rows = machine
    ahead, ring = told
    longest = max([len(first)] + [len(step[0]) for row in rows for step in row[:2]])
    text = ahead + ring * (longest // len(ring) + 2)
    if not text.startswith(first):
        return [], []

    def steps_of(place):
        state, done = place
        return [
            (turn, (follower, first_number(told, done + len(word))))
            for turn, (word, follower) in zip("LR", rows[state][:2]) if text.startswith(word, done)]

    return graph_from((0, first_number(told, len(first))), steps_of)


def first_number(told, number):
    """Return the least number of turns behind which a course goes on as it does behind so many."""
    ahead, ring = told
    if number < len(ahead):
        return number
    return len(ahead) + (number - len(ahead)) % len(ring)
