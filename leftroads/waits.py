"""What of a machine's writing is sure, how long it waits, and how many roads are sent where."""

from leftroads.checks import check_above_zero, check_fraction, check_from_zero, check_machine, check_road
from leftroads.counts import left_of_bound, left_of_word, numbers_of_roads
from leftroads.forms import least_form, sure_words
from leftroads.recurrences import characteristic, number_far_on, times_polynomial
from leftroads.roads import road_of
from leftroads.silences import circling_matrix, greatest_sums
from leftroads.walks import read_on
from leftroads.words import first_writing


def surely(machine, road):
    """Return the longest beginning common to all that a machine writes for the roads that begin with a road."""
    check_machine(machine)
    check_road(road)
    first, rows = machine
    word, state = read_on(rows, 0, road)
    return first + word + sure_words(rows)[state]


def wait(machine):
    """Return the greatest number of turns in a row that are read without writing, None if there is none."""
    check_machine(machine)
    _, rows = least_form(machine)
    steps = [[(1, follower) for word, follower in row[:2] if word == ""] for row in rows]
    sums = greatest_sums(steps)
    if sums is None:
        return None
    return max(sums)


def ahead(machine):
    """Return how many turns more than it has read a machine can have written, at least and at most, before any end."""
    check_machine(machine)
    first, rows = least_form(machine)
    more = [[(len(word) - 1, follower) for word, follower in row[:2]] for row in rows]
    fewer = [[(-number, follower) for number, follower in steps] for steps in more]
    greatest, least_negative = greatest_sums(more), greatest_sums(fewer)
    return (
        None if least_negative is None else len(first) - least_negative[0],
        None if greatest is None else len(first) + greatest[0])


def writes(machine, word):
    """Return the first road for which a word stands in what a machine writes, None if there is none."""
    check_machine(machine)
    check_road(word)
    return first_writing(machine, word)


def never(machine, length):
    """Return the ascending list of the words of a length that stand in nothing that a machine writes."""
    check_machine(machine)
    check_from_zero(length)
    words = [""]
    for _ in range(length):
        words = [word + turn for word in words for turn in "LR"]
    return [word for word in words if first_writing(machine, word) is None]


def number_of_roads(machine, length, word):
    """Return how many roads of a length there are for which what is written begins with a word."""
    check_machine(machine)
    check_road(word)
    check_from_zero(length)
    return number_at(machine, length, word, left_of_word)


def number_at(machine, length, text, left_of):
    """Return how many roads of a length there are for which what is written stands to a text as is asked."""
    # There are no more roads than this, so that the rest is the number itself.
    above_all = (1 << length) + 1
    return numbers_of_roads(machine, length, text, left_of, above_all)[length]


def rest_of_roads(machine, length, word, modulus):
    """Return the rest by a modulus of the number of roads of a length for which what is written begins with a word."""
    check_machine(machine)
    check_road(word)
    check_from_zero(length)
    check_above_zero(modulus)
    form = least_form(machine)
    # Roads that are still waiting for the same turn of the word go on only by
    # silent turns, of which those that come round tell how their numbers grow;
    # all others have come to an end after so many turns as there are kinds of them.
    polynomial = [1, -2]
    circling = characteristic(circling_matrix(form[1]))
    for _ in word:
        polynomial = [number % modulus for number in times_polynomial(polynomial, circling)]
        polynomial[0] = 1
    start = len(form[1]) * len(word)
    known = numbers_of_roads(form, min(length, start + len(polynomial) - 2), word, left_of_word, modulus)
    if length < len(known):
        return known[length]
    return number_far_on(known[start:], length - start, polynomial, modulus)


def number_below(machine, length, fraction):
    """Return how many roads of a length there are for which what is written tells less than a fraction."""
    check_machine(machine)
    check_from_zero(length)
    check_fraction(fraction)
    return number_at(machine, length, road_of(fraction) + "M", left_of_bound)
