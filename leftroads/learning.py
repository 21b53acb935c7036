"""Machines that are told by what they write for all short roads.

From one road to another that goes on from it, what is written changes: a text
is taken off at its end, and another one is put there. Two roads lead to the
same state exactly if, from both on, the same roads change what is written alike.
"""

from leftroads.walks import common_beginning


def machine_through(written, most):
    """Return a machine of at most so many states, None if there is none, for a dict of what is written for roads.

    These are all roads of at most 2 * most - 1 turns. If some machine of so many
    states writes this, the one that is returned writes the same for every road.
    """
    found = states_found(written, most)
    if found is None:
        return None
    roads, followers = found
    changes = [[change(written[road], written[road + turn]) for turn in "LR"] for road in roads]
    ends = ends_of_states(changes, followers, most)
    if ends is None or not written[""].endswith(ends[0]):
        return None
    rows = []
    for state, own in enumerate(followers):
        left, right = [
            (word_at(ends[state], at_turn, ends[follower]), follower)
            for at_turn, follower in zip(changes[state], own)]
        rows.append((left, right, ends[state]))
    return (without_end(written[""], ends[0]), rows)


def states_found(written, most):
    """Return the list of the first roads to all states, and that of the states that follow; None if there are more."""
    # Two states, of so many in all, are told apart by roads with fewer turns than this.
    tails = [road for road in written if 0 < len(road) < most]
    roads = [""]
    numbers = {changes_from(written, "", tails): 0}
    followers = []
    while len(followers) < len(roads):
        own = []
        for turn in "LR":
            road = roads[len(followers)] + turn
            kind = changes_from(written, road, tails)
            if kind not in numbers:
                if len(roads) == most:
                    return None
                numbers[kind] = len(roads)
                roads.append(road)
            own.append(numbers[kind])
        followers.append(own)
    return roads, followers


def changes_from(written, road, tails):
    """Return the tuple of the changes from a road to those that go on from it."""
    return tuple([change(written[road], written[road + tail]) for tail in tails])


def change(one, other):
    """Return what is taken off at the end of one text, and what is put there, to make another one of it."""
    shared = len(common_beginning(one, other))
    return (one[shared:], other[shared:])


def ends_of_states(changes, followers, most):
    """Return the list of what each state must write at an end, for all changes to be words; None if there is none."""
    ends = ["" for _ in changes]
    # Nothing is taken off by a road that comes to a state more than twice, if
    # it is not by a shorter one, too: so all is told by this many turns.
    for _ in range(2 * most + 1):
        is_settled = True
        for state, own in enumerate(followers):
            for at_turn, follower in zip(changes[state], own):
                end = longer_end(ends[state], taken_off(at_turn, ends[follower]))
                if end is None:
                    return None
                if end != ends[state]:
                    ends[state] = end
                    is_settled = False
        if is_settled:
            return ends
    return None


def taken_off(at_turn, end):
    """Return what a change and then the loss of an end take off, None if they would put something before it."""
    off, on = at_turn
    if on.endswith(end):
        return off
    if end.endswith(on):
        return without_end(end, on) + off
    return None


def longer_end(one, other):
    """Return the longer one of two texts that end alike, None if they do not."""
    if other is None:
        return None
    if one.endswith(other):
        return one
    if other.endswith(one):
        return other
    return None


def without_end(text, end):
    """Return a text without what it ends with."""
    return text[:len(text) - len(end)]


def word_at(end, at_turn, end_behind):
    """Return what is written at a turn that changes what stands with an end to what stands with another one."""
    off, on = at_turn
    if on.endswith(end_behind):
        return without_end(end, off) + without_end(on, end_behind)
    return without_end(end, without_end(end_behind, on) + off)
