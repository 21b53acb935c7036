"""Machines that take back what others do."""

from leftroads.graphs import followers_in, graph_from, nodes_in_order
from leftroads.pairs import ENDED, meeting, parted_roads, steps_of
from leftroads.places import first_road_writing


def are_told_apart(rows):
    """Return True if from the first state on no two unlike roads, and no two unlike courses, are written alike."""
    steps = [steps_of(row) for row in rows]
    met, graph = graph_from(None, lambda pair: meetings_behind(pair, rows, steps))
    if any([back == ENDED for _, _, back in met[1:]]):
        return False
    # Two courses that are written alike meet for ever, so that they come round.
    return len(nodes_in_order(followers_in(graph))) == len(graph)


def meetings_behind(pair, rows, steps):
    """Return the steps to all meetings that follow one, told without their roads; behind None to the first ones."""
    if pair is None:
        found = parted_roads(rows, steps)
    elif pair[2] == ENDED:
        found = []
    else:
        rest, front, back = pair
        found = [meeting((rest, front, ""), (word, follower, "")) for word, follower, _ in steps[back]]
    return [("", (met[0], met[1], met[3])) for met in found if met is not None]


def machine_back(rows):
    """Return the machine that takes back what one does that misses no road and tells all apart.

    That one is in its least form, so that it writes nothing first. Each state
    stands for one of its states, and the turns that are read, but not yet
    taken back, since then.
    """
    found = [(0, "")]
    numbers = {(0, ""): 0}
    made = []
    while len(made) < len(found):
        state, text = found[len(made)]
        steps = []
        for turn in "LR":
            word, behind = taken_back(rows, state, text + turn)
            if behind not in numbers:
                numbers[behind] = len(found)
                found.append(behind)
            steps.append((word, numbers[behind]))
        made.append((steps[0], steps[1], first_road_writing(rows, (state, 0), text)))
    return ("", made)


def taken_back(rows, state, text):
    """Return the turns that are sure to have been read where a text is written from a state on.

    The state that they lead to, and what is left of the text, stand behind them.
    """
    turns = []
    step = sure_step(rows, state, text)
    while step is not None:
        turn, word, state = step
        turns.append(turn)
        text = text[len(word):]
        step = sure_step(rows, state, text)
    return "".join(turns), (state, text)


def sure_step(rows, state, text):
    """Return the turn that is sure to lead to a text, what is written at it and the state behind it, or None."""
    left, right, end = rows[state]
    if end.startswith(text):
        return None
    # Each text is written for some road, so that one turn alone leads to it only
    # if all that is written at this turn belongs to it.
    is_left, is_right = may_begin(rows, left, text), may_begin(rows, right, text)
    if is_left and not is_right:
        return ("L", left[0], left[1])
    if is_right and not is_left:
        return ("R", right[0], right[1])
    return None


def may_begin(rows, step, text):
    """Return True if what is written at a step and behind it may begin with a text."""
    waiting = [(step, text)]
    while waiting:
        (word, state), rest = waiting.pop()
        if word.startswith(rest):
            return True
        if rest.startswith(word):
            left, right, end = rows[state]
            rest = rest[len(word):]
            if end.startswith(rest):
                return True
            waiting.append((left, rest))
            waiting.append((right, rest))
    return False
