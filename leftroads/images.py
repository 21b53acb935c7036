"""The roads that a machine writes for some road, all at once.

What stands open once a road is written by some of them is told as pairs: the
state that was come to, or ENDED, and the rest that it has written beyond this
road; the rest is not empty, but for an end. A set of pairs is told as an
integer, with a bit for each pair.
"""

from leftroads.pairs import ENDED


def first_missed(machine):
    """Return the first road that a machine writes for no road, None if there is none."""
    first, rows = machine
    begun = [begun_from(rows, state) for state in range(len(rows))]
    pairs, steps = pairs_and_steps(start_of(first, begun), begun)
    ended = bits_of([number for number, pair in enumerate(pairs) if pair == (ENDED, "")])
    entries = [(bits_of([pairs.index(pair) for pair in start_of(first, begun)]), "")]
    kept = []
    at = 0
    while at < len(entries):
        open_pairs, road = entries[at]
        at += 1
        if open_pairs & ended == 0:
            return road
        # What is missed behind this road is missed behind an earlier one at
        # which no more pairs stand open.
        if not any([other & open_pairs == other for other in kept]):
            kept.append(open_pairs)
            entries.append((after_turn(open_pairs, steps, 0), road + "L"))
            entries.append((after_turn(open_pairs, steps, 1), road + "R"))
    return None


def begun_from(rows, state):
    """Return the list of the pairs that stand open when a state is come to."""
    found = [state]
    seen = {state: True}
    begun = {}
    at = 0
    while at < len(found):
        left, right, end = rows[found[at]]
        at += 1
        begun[(ENDED, end)] = True
        for word, follower in (left, right):
            if word != "":
                begun[(follower, word)] = True
            elif follower not in seen:
                seen[follower] = True
                found.append(follower)
    return list(begun)


def start_of(first, begun):
    """Return the list of the pairs that stand open before any turn is written."""
    if first == "":
        return begun[0]
    return [(0, first)]


def pairs_and_steps(start, begun):
    """Return the list of all pairs that can stand open, and for each what stands open behind L and R."""
    pairs = list(start)
    numbers = {pair: number for number, pair in enumerate(pairs)}
    steps = []
    while len(steps) < len(pairs):
        state, rest = pairs[len(steps)]
        own = [0, 0]
        if rest != "":
            behind = [(state, rest[1:])]
            if rest[1:] == "" and state != ENDED:
                behind = begun[state]
            for pair in behind:
                if pair not in numbers:
                    numbers[pair] = len(pairs)
                    pairs.append(pair)
            own["LR".find(rest[0])] = bits_of([numbers[pair] for pair in behind])
        steps.append(own)
    return pairs, steps


def bits_of(numbers):
    """Return the integer with these bits, each given once."""
    return sum([1 << number for number in numbers])


def after_turn(open_pairs, steps, turn):
    """Return what stands open behind a turn."""
    behind = 0
    number = 0
    while open_pairs >> number != 0:
        if open_pairs >> number & 1 == 1:
            behind = behind | steps[number][turn]
        number += 1
    return behind
