"""How long the turns can go on at which a machine writes nothing, or more or less than it reads."""


def greatest_sums(steps):
    """Return for each state the greatest sum of the numbers on a way from it on, None if there is no greatest one.

    The steps of a state are a list of tuples (number, state that follows); a
    way may have none.
    """
    # A greatest sum needs no way with a state twice, so that it is found in as
    # many rounds as there are states: if it still grows then, it always will.
    sums = [0] * len(steps)
    for _ in steps:
        is_settled = True
        for state, own in enumerate(steps):
            greatest = max([sums[state]] + [number + sums[follower] for number, follower in own])
            if greatest != sums[state]:
                sums[state] = greatest
                is_settled = False
        if is_settled:
            return sums
    return None


def circling_matrix(rows):
    """Return how many silent turns lead from each to each of the states between silent ways that come round."""
    circling = list(range(len(rows)))
    many = 0
    while many != len(circling):
        many = len(circling)
        circling = with_followers(rows, circling)
        circling = with_forerunners(rows, circling)
    return [[silent_followers(rows[state]).count(other) for other in circling] for state in circling]


def silent_followers(row):
    """Return the list of the states that follow a state at a turn at which nothing is written."""
    return [follower for word, follower in row[:2] if word == ""]


def with_followers(rows, states):
    """Return those of the states that one of them follows silently."""
    kept = {state: True for state in states}
    return [state for state in states if any([follower in kept for follower in silent_followers(rows[state])])]


def with_forerunners(rows, states):
    """Return those of the states that follow one of them silently."""
    kept = {follower: True for state in states for follower in silent_followers(rows[state])}
    return [state for state in states if state in kept]
