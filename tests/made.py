"""Machines that the tests make, and what they work out on their own about them."""

from tests.plain import all_roads, common_beginning, led, told, written


def random_word(random, most):
    return "".join(random.choice("LR") for _ in range(random.randint(0, most)))


def random_machine(random, states, most):
    """Any machine of so many states with words of at most so many turns."""
    kind = random.randrange(4)

    def step():
        # Some write nothing at most turns, some lead on and come round in order, some begin all words alike.
        word = random_word(random, most)
        if kind == 1 and random.random() < 0.6:
            word = ""
        if kind == 3:
            word = ("RL" + word)[:most]
        return word

    rows = []
    for state in range(states):
        followers = [random.randrange(states) for _ in "LR"]
        if kind == 2:
            followers[random.randrange(2)] = (state + 1) % states
        rows.append(((step(), followers[0]), (step(), followers[1]), step()))
    return (random_word(random, most), rows)


def some_machines(random, many, states=8, most=4):
    return [random_machine(random, random.randint(1, states), random.randint(0, most)) for _ in range(many)]


def renumbered(random, machine):
    """The same machine with all states but the first one numbered otherwise."""
    first, rows = machine
    order = list(range(1, len(rows)))
    random.shuffle(order)
    order = [0] + order
    place = {state: at for at, state in enumerate(order)}
    return (first, [
        ((rows[state][0][0], place[rows[state][0][1]]), (rows[state][1][0], place[rows[state][1][1]]), rows[state][2])
        for state in order])


def with_a_state_twice(random, machine):
    """The same machine with one state told twice, each of both followed by others as it may be."""
    first, rows = machine
    state, twin = random.randrange(len(rows)), len(rows)

    def to(follower):
        return random.choice((state, twin)) if follower == state else follower

    return (first, [
        ((left, to(after_left)), (right, to(after_right)), end)
        for (left, after_left), (right, after_right), end in rows + [rows[state]]])


def with_lost_states(random, machine):
    """The same machine with states behind it that cannot be come to."""
    first, rows = machine
    many = len(rows) + 2
    lost = [((random_word(random, 3), random.randrange(many)), (random_word(random, 3), random.randrange(many)),
             random_word(random, 3)) for _ in range(2)]
    return (first, rows + lost)


def late(machine):
    """The same machine, which writes what it would write at a turn only at the next one or at the end."""
    first, rows = machine
    places = {(0, first): 0}
    order = [(0, first)]
    made = []
    while len(made) < len(order):
        state, pending = order[len(made)]
        steps = []
        for word, follower in rows[state][:2]:
            if (follower, word) not in places:
                places[(follower, word)] = len(order)
                order.append((follower, word))
            steps.append((pending, places[(follower, word)]))
        made.append((*steps, pending + rows[state][2]))
    return ("", made)


def told_otherwise(random, machine):
    """Machines that write the same for every road."""
    return [
        renumbered(random, machine), with_a_state_twice(random, machine), with_lost_states(random, machine),
        late(machine), with_lost_states(random, with_a_state_twice(random, renumbered(random, machine)))]


def with_one_change(random, machine):
    """A machine with one word or one state changed."""
    first, rows = machine
    rows = [list(map(list, row[:2])) + [row[2]] for row in rows]
    row = random.choice(rows)
    what = random.randrange(4)
    if what < 2:
        row[what][0] = random_word(random, 4)
    elif what == 2:
        row[random.randrange(2)][1] = random.randrange(len(rows))
    else:
        row[2] = random_word(random, 4)
    return (first, [(tuple(left), tuple(right), end) for left, right, end in rows])


def with_ends(random, machine, most):
    """A machine with all its ends changed."""
    return (machine[0], [(left, right, random_word(random, most)) for left, right, _ in machine[1]])


def full(machine, road):
    """All that a machine writes for a road."""
    return machine[0] + written(machine, road)


def come_to(machine):
    """The states that can be come to, in the order in which they are if all roads are gone through."""
    found = [0]
    for state in found:
        for _, follower in machine[1][state][:2]:
            if follower not in found:
                found.append(follower)
    return found


def sure_rest(machine):
    """For each state what all roads from it on, up to a length that is long enough, write alike."""
    rows = machine[1]
    sure = [row[2] for row in rows]
    for _ in range(4 * len(rows) + 40):
        sure = [
            common_beginning([end, left + sure[after_left], right + sure[after_right]])
            for (left, after_left), (right, after_right), end in rows]
    return sure


def sure_steps(machine):
    """For each state what its least form writes at L and at R there: pairs of a word and the state that follows."""
    sure = sure_rest(machine)
    return [
        [((word + sure[follower])[len(sure[state]):], follower) for word, follower in row[:2]]
        for state, row in enumerate(machine[1])]


def sure_beginning(machine, road):
    """What is sure of what a machine writes once a road was read."""
    word, state = led(machine, road)
    return machine[0] + word + sure_rest(machine)[state]


def written_without_end(machine, course, rounds=40):
    """What is sure once a course came round so often, and whether more is written at each time."""
    ahead, ring = course
    word, state = led(machine, ahead)
    words, seen = [machine[0] + word], []
    for _ in range(rounds):
        seen.append(state)
        word, state = led(machine, ring, state)
        words.append(word)
    again = words[1 + seen.index(state):] if state in seen else words[1:]
    goes_on = any(again)
    return "".join(words) + ("" if goes_on else sure_rest(machine)[state]), goes_on


def first_unlike_road(one, other, most):
    """The first road, of at most so many turns, for which two machines write unlike roads."""
    return next((road for road in all_roads(most) if full(one, road) != full(other, road)), None)


def lower(one, other):
    """Whether one road tells less than another one."""
    (above, below), (other_above, other_below) = told(one), told(other)
    return above * other_below < other_above * below


def places_by_length(machine, road, most):
    """For each number of turns to the greatest one: how many roads stand at each place while a road is written.

    A place is a state and how much is written; behind it stand the number of the
    roads to it and the first one of them.
    """
    first, rows = machine
    level = {(0, len(first)): (1, "")} if road.startswith(first) else {}
    for _ in range(most + 1):
        yield level
        later = {}
        for (state, done), (many, before) in level.items():
            for turn, (word, follower) in zip("LR", rows[state][:2]):
                if road.startswith(word, done):
                    place = (follower, done + len(word))
                    number, least = later.get(place, (0, before + turn))
                    later[place] = (number + many, min(least, before + turn))
        level = later


def sources_of(machine, road):
    """The first road for which a road is written, and how many there are, None and None, if there are endless many."""
    places = len(machine[1]) * (len(road) + 1)
    found, number = None, 0
    for length, level in enumerate(places_by_length(machine, road, 2 * places)):
        ended = [(many, before) for (state, done), (many, before) in level.items()
                 if machine[1][state][2] == road[done:]]
        if ended and found is None:
            found = min(before for _, before in ended)
        number += sum(many for many, _ in ended)
        # A road with more turns than there are places comes round on its way, and may do so as often as it likes.
        if ended and length >= places:
            return found, None
    return found, number


def has_course_source(machine, told):
    """Whether a machine can go on for ever to write a course."""
    ahead, ring = told
    enough = (len(machine[1]) + 1) * (len(ahead) + len(ring) + 4) * 5
    text = ahead + ring * (enough // len(ring) + 5)
    first, rows = machine
    waiting = [(0, len(first))] if text.startswith(first) else []
    seen = set(waiting)
    while waiting:
        state, done = waiting.pop()
        if done >= enough:
            return True
        for word, follower in rows[state][:2]:
            place = (follower, done + len(word))
            if text.startswith(word, done) and place not in seen:
                seen.add(place)
                waiting.append(place)
    return False


def run_of_courses(machine, told, number=60):
    """The first turns, of so many, that a machine writes for a course, or all if there are fewer."""
    text, goes_on = written_without_end(machine, told, 2 * number)
    return text[:number] if goes_on else text + "."
