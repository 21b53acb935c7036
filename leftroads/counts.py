"""How many roads of each length there are for which what is written stands to a text as is asked.

What is still asked is told by what is left of the text: the empty text where it
holds for good, None where it never will. Behind what is written at an end
stands an N.
"""

END = "N"


def left_of_word(rest, written):
    """Return what is left to be written so that it begins with a word."""
    if written.startswith(rest):
        return ""
    if rest.startswith(written):
        return rest[len(written):]
    return None


def left_of_bound(rest, written):
    """Return what is left of a bound, with an M behind it, below which all is to stay."""
    # M and N stand between L and R, so that texts are ordered as the numbers of
    # their roads; N stands behind M, so that a bound is not below itself.
    if rest.startswith(written):
        return rest[len(written):]
    if written < rest:
        return ""
    return None


def numbers_of_roads(machine, most, text, left_of, modulus):
    """Return for each length, to a greatest one, the rest of the number of roads for which it holds."""
    first, rows = machine
    # Roads for which it holds for good are only counted: each has two that are longer by one.
    held, waiting = 0, {}
    rest = left_of(text, first)
    if rest == "":
        held = 1
    elif rest is not None:
        waiting = {(0, rest): 1}
    numbers = []
    for _ in range(most + 1):
        numbers.append((held + number_at_end(rows, waiting, left_of)) % modulus)
        gone, waiting = one_turn_on(rows, waiting, left_of, modulus)
        held = (2 * held + gone) % modulus
    return numbers


def number_at_end(rows, waiting, left_of):
    """Return for how many roads it holds once they end here."""
    return sum([
        many for (state, rest), many in waiting.items() if left_of(rest, rows[state][2] + END) == ""])


def one_turn_on(rows, waiting, left_of, modulus):
    """Return for how many roads it holds for good one turn on, and those that are still waiting."""
    gone = 0
    later = {}
    for (state, rest), many in waiting.items():
        for word, follower in rows[state][:2]:
            left = left_of(rest, word)
            if left == "":
                gone += many
            elif left is not None:
                later[(follower, left)] = (later.get((follower, left), 0) + many) % modulus
    return gone, later
