"""Reading on with the states of a machine: what is written, and which states are come to."""


def read_on(rows, state, road):
    """Return what is written while a road is read from a state on, and the state that follows."""
    words = []
    for turn in road:
        word, state = rows[state]["LR".find(turn)]
        words.append(word)
    return "".join(words), state


def write_rest(rows, state, road):
    """Return what is written for a road from a state on, with its end."""
    word, state = read_on(rows, state, road)
    return word + rows[state][2]


def write_all(machine, road):
    """Return what a machine writes for a road."""
    return machine[0] + write_rest(machine[1], 0, road)


def read_rounds(rows, state, ring):
    """Return what is written at first, and then again and again, while a ring is read for ever from a state on."""
    words = []
    seen = {}
    while state not in seen:
        seen[state] = len(words)
        word, state = read_on(rows, state, ring)
        words.append(word)
    at = seen[state]
    return "".join(words[:at]), "".join(words[at:])


def first_roads(rows):
    """Return the dict of the states that can be come to, in their order, with the first road to each."""
    roads = {0: ""}
    found = [0]
    at = 0
    while at < len(found):
        state = found[at]
        at += 1
        for turn, (_, follower) in zip("LR", rows[state][:2]):
            if follower not in roads:
                roads[follower] = roads[state] + turn
                found.append(follower)
    return roads


def common_beginning(one, other):
    """Return the longest common beginning of two texts."""
    shared, most = 0, min(len(one), len(other))
    while shared < most:
        middle = (shared + most + 1) // 2
        if one[shared:middle] == other[shared:middle]:
            shared = middle
        else:
            most = middle - 1
    return one[:shared]
