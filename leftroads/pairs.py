"""Searches for pairs of roads, and for roads that part two machines."""

from leftroads.walks import common_beginning, first_roads

# No state: one road of a pair has come to its end.
ENDED = -1


def first_parting(one, other):
    """Return the first road for which two machines do not write the same, None if there is none."""
    # A pair of states that is come to again, by a road for which both write the
    # same, goes on as it did behind the road before.
    entries = [(0, 0, one[0], other[0], "")]
    seen = {}
    at = 0
    while at < len(entries):
        state, other_state, text, other_text, road = entries[at]
        at += 1
        row, other_row = one[1][state], other[1][other_state]
        if text + row[2] != other_text + other_row[2]:
            return road
        if (state, other_state) in seen:
            continue
        seen[(state, other_state)] = True
        done = len(common_beginning(text, other_text))
        for at_turn, turn in enumerate("LR"):
            word, follower = row[at_turn]
            other_word, other_follower = other_row[at_turn]
            entries.append((
                follower, other_follower, text[done:] + word, other_text[done:] + other_word, road + turn))
    return None


def first_fall(rows):
    """Return two roads, the first one telling less, for which what is written is not so; None if there are none."""
    # Two roads part where one of them ends, or a third one, between both, would.
    # So it is enough to hold each end against what is written behind each turn.
    # M stands between L and R as an end does, so that texts with an M behind
    # them are ordered as the numbers of the roads.
    entries = []
    roads = first_roads(rows)
    for state, road in roads.items():
        left, right, end = rows[state]
        entries.append(("L", left, end + "M", road, road + "L"))
        entries.append(("R", right, end + "M", road, road + "R"))
    seen = {}
    at = 0
    while at < len(entries):
        turn, (word, state), rest, ended, road = entries[at]
        at += 1
        if not rest.startswith(word):
            if is_fall(turn, word, rest):
                return in_order(turn, ended, road)
            continue
        rest = rest[len(word):]
        if (turn, state, rest) in seen:
            continue
        seen[(turn, state, rest)] = True
        left, right, end = rows[state]
        if is_fall(turn, end + "M", rest):
            return in_order(turn, ended, road)
        entries.append((turn, left, rest, ended, road + "L"))
        entries.append((turn, right, rest, ended, road + "R"))
    return None


def is_fall(turn, word, rest):
    """Return True if a word, written behind a turn, does not stand to the rest as the turn to an end."""
    if turn == "L":
        return word >= rest
    return word <= rest


def in_order(turn, ended, road):
    """Return the road that ended and the one that went on with a turn, the one that tells less ahead."""
    if turn == "L":
        return (road, ended)
    return (ended, road)


def first_two_alike(rows):
    """Return two unlike roads for which the same is written, None if there are none."""
    # Always the one road goes on for which less is written, so that what is
    # ahead of it is never more than the rest of a word.
    steps = [steps_of(row) for row in rows]
    entries = parted_roads(rows, steps)
    seen = {}
    at = 0
    while at < len(entries):
        rest, front, front_road, back, back_road = entries[at]
        at += 1
        if back == ENDED:
            return (front_road, back_road)
        if (rest, front, back) in seen:
            continue
        seen[(rest, front, back)] = True
        for word, follower, turn in steps[back]:
            met = meeting((rest, front, front_road), (word, follower, back_road + turn))
            if met is not None:
                entries.append(met)
    return None


def steps_of(row):
    """Return the steps from a state, its end last: what is written, the state that follows, and the turn."""
    (left_word, left), (right_word, right), end = row
    return [(left_word, left, "L"), (right_word, right, "R"), (end, ENDED, "")]


def parted_roads(rows, steps):
    """Return the meetings of all roads that part at a state."""
    entries = []
    roads = first_roads(rows)
    for state, road in roads.items():
        left, right, end = [(word, follower, road + turn) for word, follower, turn in steps[state]]
        for met in (meeting(left, right), meeting(left, end), meeting(right, end)):
            if met is not None:
                entries.append(met)
    return entries


def meeting(one, other):
    """Return how two roads stand to each other, None if what is written for them can't become the same.

    A road is passed as what is written for it, the state that follows, and
    itself. What is returned tells what is written for the front road alone, its
    state and itself, then the state of the back road and itself.
    """
    if not one[0].startswith(other[0]):
        one, other = other, one
    word, state, road = one
    other_word, other_state, other_road = other
    if not word.startswith(other_word):
        return None
    rest = word[len(other_word):]
    if other_state != ENDED:
        return (rest, state, road, other_state, other_road)
    # What has ended can't come up with what is ahead of it.
    if rest != "":
        return None
    return ("", ENDED, other_road, state, road)
