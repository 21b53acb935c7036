"""Machines that write each road for just one, and others that do not, by one thing."""

from tests.plain import all_roads

PLAIN = ("", [(("L", 0), ("R", 0), "")])
# The first turn is held back until the first R.
HELD = ("", [(("", 1), ("", 2), ""), (("L", 1), ("RL", 3), "L"), (("L", 2), ("RR", 3), "R"), (("L", 3), ("R", 3), "")])
# The first two turns exchange their places.
SECOND_FIRST = (
    "", [(("", 1), ("", 2), ""), (("LL", 3), ("RL", 3), "L"), (("LR", 3), ("RR", 3), "R"), (("L", 3), ("R", 3), "")])
# All roads move by one along the row of L alone, 1 and R alone.
ALONG = ("", [(("", 1), ("RR", 2), "R"), (("L", 2), ("RL", 2), ""), (("L", 2), ("R", 2), "")])
# The trees of L and R exchange their places, or those of LL and LR.
EXCHANGED = ("", [(("R", 1), ("L", 1), ""), (("L", 1), ("R", 1), "")])
EXCHANGED_BELOW = ("", [(("L", 1), ("R", 2), ""), (("R", 2), ("L", 2), ""), (("L", 2), ("R", 2), "")])
# The next one of all roads of as many turns, counted from the first turn on.
COUNTED = ("", [(("R", 1), ("L", 0), ""), (("L", 1), ("R", 1), "")])
# What takes these back has more states.
GROWING = [
    ("", [(("", 2), ("RR", 1), "R"), (("R", 3), ("L", 0), ""), (("L", 3), ("RL", 0), ""), (("", 2), ("RR", 0), "R")]),
    ("", [(("", 2), ("", 1), ""), (("LR", 3), ("RL", 0), "R"), (("RR", 3), ("LL", 3), "L"), (("", 1), ("", 2), "")]),
    ("", [(("", 2), ("LL", 1), ""), (("LL", 0), ("", 2), ""), (("R", 1), ("LR", 0), "L")])]
ONE_TO_ONE = [PLAIN, SECOND_FIRST, ALONG, EXCHANGED, EXCHANGED_BELOW, COUNTED] + GROWING


def changes(machine, most=2):
    """All machines with one word, of at most so many turns, or one state changed."""
    first, rows = machine
    words = all_roads(most)
    made = [(word, rows) for word in words]
    for at, (left, right, end) in enumerate(rows):
        states = [(word, left[1]) for word in words] + [(left[0], state) for state in range(len(rows))]
        others = [(step, right, end) for step in states]
        states = [(word, right[1]) for word in words] + [(right[0], state) for state in range(len(rows))]
        others += [(left, step, end) for step in states] + [(left, right, word) for word in words]
        made += [(first, rows[:at] + [row] + rows[at + 1:]) for row in others]
    return [other for other in made if other != machine]


def random_tree(random, leaves):
    """The roads of a tree with so many ends: those where it goes on, and the ends."""
    inner, ends = [], [""]
    while len(ends) < leaves:
        road = ends.pop(random.randrange(len(ends)))
        inner.append(road)
        ends += [road + "L", road + "R"]
    return inner, ends


def random_tree_pair(random, leaves):
    """A machine that moves all trees behind the ends of one tree to those of another one, and all others likewise."""
    inner, ends = random_tree(random, leaves)
    other_inner, other_ends = random_tree(random, leaves)
    random.shuffle(other_inner)
    random.shuffle(other_ends)
    inner.sort(key=lambda road: (len(road), road))
    if not inner:
        return PLAIN
    to = dict(zip(ends, other_ends))

    def step(road):
        return (to[road], len(inner)) if road in to else ("", inner.index(road))

    rows = [(step(road + "L"), step(road + "R"), end) for road, end in zip(inner, other_inner)]
    return ("", rows + [(("L", len(rows)), ("R", len(rows)), "")])


def random_letters(random, states):
    """A machine that writes one turn for each, both at each state, and nothing at ends."""
    rows = []
    for _ in range(states):
        words = random.choice(("LR", "RL"))
        rows.append(((words[0], random.randrange(states)), (words[1], random.randrange(states)), ""))
    return ("", rows)
