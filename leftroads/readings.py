"""Maps, machines and courses read from their texts."""

from leftroads.checks import is_map, is_road, is_state
from leftroads.errors import Unreadable
from leftroads.roads import course
from leftroads.texts import show_map


def read_map(text):
    """Return the map with a text."""
    # Whether all other signs stand where they should is told by the text that is shown.
    words = text.replace("(", "").replace(")", "").split(" ")
    numbers = [words[at] for at in (0, 3, 5, 8) if at < len(words)]
    if len(numbers) < 4 or not all([is_number(number) for number in numbers]):
        raise Unreadable(text)
    a, b, c, d = [int(number) for number in numbers]
    if show_map((a, b, c, d)) != text or not is_map((a, b, c, d)):
        raise Unreadable(text)
    return (a, b, c, d)


def is_number(text):
    """Return True if a text is that of an integer from 0 on with at most nine digits."""
    if not text.isascii() or not text.isdigit() or len(text) > 9:
        return False
    return text == "0" or text[0] != "0"


def read_machine(text):
    """Return the machine with a text."""
    pieces = text.split("; ")
    rows = [read_state(piece) for piece in pieces[1:]]
    if not is_word(pieces[0]) or rows == [] or None in rows or not all([is_state(row, len(rows)) for row in rows]):
        raise Unreadable(text)
    return (road_of_word(pieces[0]), rows)


def read_state(text):
    """Return the state with a text, None if there is none."""
    words = text.split(" ")
    if len(words) != 3:
        return None
    left, right = read_step(words[0]), read_step(words[1])
    if left is None or right is None or not is_word(words[2]):
        return None
    return (left, right, road_of_word(words[2]))


def read_step(text):
    """Return the word and the number of the state that follows with a text, None if there are none."""
    word, _, number = text.partition(">")
    if not is_word(word) or not is_number(number):
        return None
    return (road_of_word(word), int(number))


def is_word(text):
    """Return True if a text is that of a road, a stroke for the empty one."""
    return text == "-" or text != "" and is_road(text)


def road_of_word(word):
    """Return the road with a text."""
    return "" if word == "-" else word


def read_course(text):
    """Return the course with a text."""
    ahead, _, rest = text.partition("(")
    ring = rest[:-1]
    if not rest.endswith(")") or not is_road(ahead) or not is_road(ring) or ring == "":
        raise Unreadable(text)
    if course(ahead, ring) != (ahead, ring):
        raise Unreadable(text)
    return (ahead, ring)
