"""Texts of maps, machines and courses."""

from leftroads.roads import course


def show_map(one):
    """Return the text of a map."""
    a, b, c, d = one
    return f"({a} x + {b}) / ({c} x + {d})"


def show_machine(machine):
    """Return the text of a machine."""
    first, rows = machine
    return "; ".join([shown_word(first)] + [shown_state(row) for row in rows])


def shown_state(row):
    """Return the text of a state."""
    (left_word, left), (right_word, right), end = row
    return f"{shown_word(left_word)}>{left} {shown_word(right_word)}>{right} {shown_word(end)}"


def shown_word(word):
    """Return a road, a stroke for the empty one."""
    return "-" if word == "" else word


def show_course(told):
    """Return the text of the least way of a course."""
    ahead, ring = course(told[0], told[1])
    return f"{ahead}({ring})"
