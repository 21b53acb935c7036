"""Words that stand in what a machine writes."""


def first_writing(machine, word):
    """Return the first road for which a word stands in what a machine writes, None if there is none."""
    first, rows = machine
    # How much of the word what is written ends with is all that matters for what is written later.
    entries = [(0, first, "")]
    seen = {}
    at = 0
    while at < len(entries):
        state, text, road = entries[at]
        at += 1
        left, right, end = rows[state]
        if word in text + end:
            return road
        begun = longest_begun(word, text)
        if (state, begun) not in seen:
            seen[(state, begun)] = True
            entries.append((left[1], begun + left[0], road + "L"))
            entries.append((right[1], begun + right[0], road + "R"))
    return None


def longest_begun(word, text):
    """Return the longest beginning of a word, but not all of it, with which a text ends."""
    for length in range(min(len(word) - 1, len(text)), 0, -1):
        if text.endswith(word[:length]):
            return word[:length]
    return ""
