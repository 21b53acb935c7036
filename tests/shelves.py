"""Books that the tests make, and what they work out on their own about them."""

from fractions import Fraction

from tests.plain import (
    all_roads, ends_of, is_map, moved, pair, random_fraction, random_map_of_size, road_moved, road_to, told)
from tests.turning import random_tree

SIZES = [-6, -5, -4, -3, -2, -1, 1, 2, 3, 4, 5, 6]


def in_order(entries):
    return sorted(entries, key=lambda entry: (len(entry[0]), entry[0]))


def random_book(random, leaves, sizes=SIZES, greatest=12):
    """A book with so many maps, behind roads of at most 4 turns."""
    inner, ends = random_tree(random, leaves)
    while max(map(len, ends)) > 4:
        inner, ends = random_tree(random, leaves)
    return in_order([(road, random_fraction(random, 30)) for road in inner] + [
        (road, random_map_of_size(random, greatest, random.choice(sizes))) for road in ends])


def exchanging_book(random, leaves):
    """A book that moves the trees behind the ends of one tree, and the roads of it, to those of another one."""
    trees = [random_tree(random, leaves) for _ in range(2)]
    while max(len(road) for _, ends in trees for road in ends) > 4:
        trees = [random_tree(random, leaves) for _ in range(2)]
    (inner, ends), (other_inner, other_ends) = trees
    random.shuffle(other_inner)
    random.shuffle(other_ends)
    there = [(road, told(other)) for road, other in zip(inner, other_inner)]
    there += [(road, matrix(other)) for road, other in zip(ends, other_ends)]
    back = [(other, told(road)) for road, other in zip(inner, other_inner)]
    back += [(other, matrix(road)) for road, other in zip(ends, other_ends)]
    return in_order(there), in_order(back)


def matrix(road):
    """The map from a number to the number of the road that goes on by its own behind a road."""
    low, high = ends_of(road)
    return (high[0], low[0], high[1], low[1])


def put_behind(one, other):
    """What does the other one first, then the one, with no divisor taken out."""
    a, b, c, d = one
    e, f, g, h = other
    return (a * e + b * g, a * f + b * h, c * e + d * g, c * f + d * h)


def written_by(book, road):
    """The road that a book tells for a road, by the only entry that tells it."""
    answers = []
    for entry, value in book:
        if len(value) == 2 and entry == road:
            answers.append(road_to(value))
        if len(value) == 4 and road.startswith(entry):
            answers.append(road_moved(value, road[len(entry):]))
    if len(answers) != 1:
        raise AssertionError((book, road, answers))
    return answers[0]


def number_sent(book, fraction):
    """The fraction that a book tells for another one, by the numbers between which the roads of its entries lie."""
    x = Fraction(*fraction)
    answers = []
    for road, value in book:
        (above, below), (far_above, far_below) = ends_of(road)
        if len(value) == 2 and told(road) == fraction:
            answers.append(value)
        if len(value) == 4 and x * below > above and x * far_below < far_above:
            answers.append(moved(value, pair((below * x - above) / (far_above - far_below * x))))
    if len(answers) != 1:
        raise AssertionError((book, fraction, answers))
    return answers[0]


def parted(book, road):
    """The same book with the map behind a road told by two maps and a fraction."""
    one = dict(book)[road]
    rest = [entry for entry in book if entry[0] != road]
    return in_order(rest + [
        (road, moved(one, (1, 1))), (road + "L", put_behind(one, matrix("L"))),
        (road + "R", put_behind(one, matrix("R")))])


def least_found(book):
    """The least book, by trying behind each road, the shortest ones first, the only map that may do all there."""
    found = []
    for road, value in book:
        if any(len(other) == 4 and road.startswith(place) for place, other in found):
            continue
        one = map_for_all(road, [(place[len(road):], other) for place, other in book if place.startswith(road)])
        found.append((road, value if one is None else one))
    return found


def map_for_all(road, entries):
    """The map that does all that entries tell, None if there is none."""
    rest, value = [entry for entry in entries if len(entry[1]) == 4][0]
    a, b, c, d = matrix(rest)
    one = put_behind(value, (d, -b, -c, a))
    if not is_map(one):
        return None
    for rest, value in entries:
        expected = moved(one, told(rest)) if len(value) == 2 else put_behind(one, matrix(rest))
        if value != expected:
            return None
    return one


def map_done(machine, road, most=6):
    """The map that a machine does behind a road with all roads of at most so many turns, None if there is none."""
    numbers = {rest: Fraction(*told(full_road(machine, road + rest))) for rest in all_roads(most)}
    # The values at 1 / 2, 1 and 2 tell those at 0 and for ever, as the road of each other number does.
    low, middle, high = numbers["L"], numbers[""], numbers["R"]
    if len({low, middle, high}) < 3:
        return None
    low_share, high_share = middle - high, low - middle
    one = (2 * high_share * high - low_share * low, 2 * low_share * low - high_share * high,
           2 * high_share - low_share, 2 * low_share - high_share)
    scale = 1
    for number in one:
        scale = scale * number.denominator
    whole = [int(number * scale) for number in one]
    divisor = greatest_divisor(whole)
    if divisor == 0:
        return None
    whole = [number // divisor for number in whole]
    if sum(whole) < 0:
        whole = [-number for number in whole]
    one = tuple(whole)
    if not is_map(one):
        return None
    fits = all(moved(one, told(rest)) == pair(number) for rest, number in numbers.items())
    return one if fits else None


def greatest_divisor(numbers):
    divisor = 0
    for number in numbers:
        number = abs(number)
        while number:
            divisor, number = number, divisor % number
    return divisor


def full_road(machine, road):
    first, rows = machine
    state, words = 0, [first]
    for turn in road:
        word, state = rows[state]["LR".index(turn)]
        words.append(word)
    return "".join(words) + rows[state][2]
