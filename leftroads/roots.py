"""Roots of squares, told as roads."""


def ring_of_root(a, b, c):
    """Return the ring of the road to the root above 0 of a * x * x + b * x + c.

    It is for a above 0, c below 0 and a root that is no fraction.
    """
    # Behind each turn the rest of the road leads to the root of a square of
    # the same spread, again with a above 0 and c below 0. There are finitely
    # many of these and each one comes behind but one, so the first comes again.
    start = (a, b, c)
    turns = []
    while not turns or (a, b, c) != start:
        at_one = a + b + c
        if at_one < 0:
            turns.append("R")
            b, c = 2 * a + b, at_one
        else:
            turns.append("L")
            a, b = at_one, b + 2 * c
    return "".join(turns)
