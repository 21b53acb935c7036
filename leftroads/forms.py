"""Least forms of machines."""

from leftroads.walks import common_beginning, first_roads


def least_form(machine):
    """Return the least form of a machine."""
    first, rows = machine
    sure = sure_words(rows)
    rows_ahead = [written_ahead(row, sure[state], sure) for state, row in enumerate(rows)]
    return (first + sure[0], numbered(rows_ahead, numbers_of_kinds(rows_ahead)))


def sure_words(rows):
    """Return for each state the longest common beginning of all that is written from it on."""
    # What is written for the road that ends here bounds it from above, and each
    # turn may shorten it. Where nothing is shortened, it is what all roads share.
    sure = [end for _, _, end in rows]
    is_settled = False
    while not is_settled:
        is_settled = True
        for state in range(len(rows) - 1, -1, -1):
            shared = shared_word(sure[state], rows[state], sure)
            if shared != sure[state]:
                sure[state] = shared
                is_settled = False
    return sure


def shared_word(shared, row, sure):
    """Return what a word has in common with what is sure at each turn of a state."""
    for word, follower in row[:2]:
        shared = common_beginning(shared, word + sure[follower])
    return shared


def written_ahead(row, done, sure):
    """Return a state that writes what is sure as soon as it is, where some of it is done before."""
    (left_word, left), (right_word, right), end = row
    many = len(done)
    return (
        ((left_word + sure[left])[many:], left),
        ((right_word + sure[right])[many:], right),
        end[many:])


def numbers_of_kinds(rows):
    """Return for each state the number of its kind: just those of one kind write the same for all roads."""
    kinds = [0] * len(rows)
    many = 0
    found = {0: 0}
    while many != len(found):
        many = len(found)
        found = {}
        parted = []
        for (left_word, left), (right_word, right), end in rows:
            kind = (left_word, kinds[left], right_word, kinds[right], end)
            parted.append(found.setdefault(kind, len(found)))
        kinds = parted
    return kinds


def numbered(rows, kinds):
    """Return the list of one state of each kind that can be come to, in the order in which they are."""
    numbers = {}
    kept = []
    for state in first_roads(rows):
        if kinds[state] not in numbers:
            numbers[kinds[state]] = len(kept)
            kept.append(rows[state])
    return [
        ((left_word, numbers[kinds[left]]), (right_word, numbers[kinds[right]]), end)
        for (left_word, left), (right_word, right), end in kept]
