"""What machines write for roads without end.

A trace is what is written for a course, a tuple (text, ring): the ring is empty
where finitely many turns are written, otherwise the trace is a course in its
least way.
"""

from leftroads.roads import course, turns_of
from leftroads.walks import common_beginning, read_rounds


def trace_of(text, ring):
    """Return the trace of a text and a ring that comes again and again behind it."""
    if ring == "":
        return (text, "")
    return course(text, ring)


def behind_word(word, trace):
    """Return the trace that writes a word before another trace."""
    return trace_of(word + trace[0], trace[1])


def without_turns(trace, number):
    """Return what is left of a trace without its first turns."""
    text, ring = trace
    while ring != "" and len(text) < number:
        text = text + ring
    return trace_of(text[number:], ring)


def shared_trace(one, other):
    """Return the longest common beginning of two traces."""
    if one == other:
        return one
    # Two rings that agree for as many turns as both have together agree for ever.
    number = max(len(one[0]), len(other[0])) + len(one[1]) + len(other[1])
    return (common_beginning(first_turns(one, number), first_turns(other, number)), "")


def first_turns(trace, number):
    """Return so many first turns of a trace, or all if it has fewer."""
    if trace[1] == "":
        return trace[0]
    return turns_of(trace, number)


def silent_states(rows):
    """Return for each state whether one can go on from it for ever without anything being written."""
    silent = [True] * len(rows)
    is_settled = False
    while not is_settled:
        is_settled = True
        for state, row in enumerate(rows):
            if silent[state] and not any([word == "" and silent[follower] for word, follower in row[:2]]):
                silent[state] = False
                is_settled = False
    return silent


def sure_traces(rows):
    """Return for each state the longest common beginning of all traces from it on."""
    # One trace from each state bounds it from above, and each turn may shorten
    # it. The traces that end come to a state from which all may stay silent.
    sure = []
    for state, is_silent in enumerate(silent_states(rows)):
        text, ring = ("", "") if is_silent else read_rounds(rows, state, "L")
        sure.append(trace_of(text, ring))
    is_settled = False
    while not is_settled:
        is_settled = True
        for state in range(len(rows) - 1, -1, -1):
            shared = sure[state]
            for word, follower in rows[state][:2]:
                shared = shared_trace(shared, behind_word(word, sure[follower]))
            if shared != sure[state]:
                sure[state] = shared
                is_settled = False
    return sure


def have_same_traces(one, other):
    """Return True if two machines in their least forms write the same for every course."""
    rows, other_rows = one[1], other[1]
    sure, other_sure = sure_traces(rows), sure_traces(other_rows)
    if behind_word(one[0], sure[0]) != behind_word(other[0], other_sure[0]):
        return False
    pairs = [(0, 0)]
    seen = {(0, 0): True}
    at = 0
    while at < len(pairs):
        state, other_state = pairs[at]
        at += 1
        if sure[state][1] != "":
            # All that can follow is told by now, and the same for both.
            continue
        steps = traces_at(rows, sure, state)
        if steps != traces_at(other_rows, other_sure, other_state):
            return False
        for turn in (0, 1):
            pair = (rows[state][turn][1], other_rows[other_state][turn][1])
            if pair not in seen:
                seen[pair] = True
                pairs.append(pair)
    return True


def traces_at(rows, sure, state):
    """Return what is sure at each turn of a state, without what is sure before it."""
    done = len(sure[state][0])
    return [without_turns(behind_word(word, sure[follower]), done) for word, follower in rows[state][:2]]
