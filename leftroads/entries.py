"""The entries of books, as dicts: a road leads to the map behind it, or to the fraction that is told for it alone."""

from leftroads.fits import crossed, map_from
from leftroads.graphs import endless_way, graph_from
from leftroads.maps import least_map, sent, settled
from leftroads.matrices import matrix_of, times


def wild_way(rows):
    """Return the turns ahead and those of a round on which no state does a map, None if there are none."""
    _, graph = graph_from(0, lambda state: steps_without_map(rows, state))
    return endless_way(graph)


def steps_without_map(rows, state):
    """Return the turns from a state and what follows, none if from it on a map is done."""
    if map_from(rows, state) is not None:
        return []
    left, right, _ = rows[state]
    return [("L", left[1]), ("R", right[1])]


def entries_of_states(form):
    """Return the least book of a machine in which each endless road comes to a state that does a map."""
    first, rows = form
    maps = {}
    book = []
    # All roads stand in their order here: shorter ones first, and L before R.
    entries = [("", matrix_of(first), 0)]
    at = 0
    while at < len(entries):
        road, written, state = entries[at]
        at += 1
        if state not in maps:
            maps[state] = map_from(rows, state)
        if maps[state] is not None:
            book.append((road, times(written, maps[state])))
        else:
            left, right, end = rows[state]
            a, b, c, d = times(written, matrix_of(end))
            book.append((road, (a + b, c + d)))
            entries.append((road + "L", times(written, matrix_of(left[0])), left[1]))
            entries.append((road + "R", times(written, matrix_of(right[0])), right[1]))
    return book


def sent_by_entries(told, fraction):
    """Return the fraction whose road is told for the road of another one."""
    above, below = fraction
    road = ""
    while len(told[road]) == 2 and above != below:
        if above > below:
            road = road + "R"
            above = above - below
        else:
            road = road + "L"
            below = below - above
    if len(told[road]) == 2:
        return told[road]
    return sent(told[road], (above, below))


def with_map_ahead(road, one, told):
    """Return the entries, behind a road, that do a map and then what others tell."""
    entries = {}
    waiting = [(road, one)]
    while waiting:
        place, ahead = waiting.pop()
        behind = map_behind(ahead, told)
        if behind is not None:
            entries[place] = behind
        else:
            entries[place] = sent_by_entries(told, sent(ahead, (1, 1)))
            waiting.append((place + "L", times(ahead, matrix_of("L"))))
            waiting.append((place + "R", times(ahead, matrix_of("R"))))
    return entries


def map_behind(one, told):
    """Return the map that does a map and then what entries tell, None if it is told by several of them."""
    word, standing = settled(one)
    for at in range(len(word) + 1):
        behind = told[word[:at]]
        if len(behind) == 4:
            a, b, c, d = times(behind, times(matrix_of(word[at:]), standing))
            return least_map(a, b, c, d)
    return None


def least_entries(told):
    """Return the least book that tells the same as entries."""
    kept = {road: told[road] for road in told}
    roads = sorted(list(told), key=lambda road: (len(road), road))
    for road in reversed(roads):
        if len(kept[road]) == 2 and len(kept[road + "L"]) == 4 and len(kept[road + "R"]) == 4:
            one = map_over(kept[road], kept[road + "L"], kept[road + "R"])
            if one is not None:
                kept[road] = one
                del kept[road + "L"], kept[road + "R"]
    return [(road, kept[road]) for road in roads if road in kept]


def map_over(fraction, left, right):
    """Return the map that does one map behind L, another one behind R, and sends 1 to a fraction, None if none does."""
    # Where it makes one map behind R of this one, whose integers are those of the
    # other two, none of them is below 0.
    a, b, c, d = left
    one = (a - b, b, c - d, d)
    if times(one, matrix_of("R")) != right or crossed((a, c), fraction) != 0:
        return None
    return one
