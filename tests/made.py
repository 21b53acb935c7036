"""Machines that the tests make, and what they work out on their own about them."""

from tests.plain import all_roads, common_beginning, led, told, written


def random_word(random, most):
    return "".join(random.choice("LR") for _ in range(random.randint(0, most)))


def random_machine(random, states, most):
    """Any machine of so many states with words of at most so many turns."""
    kind = random.randrange(4)

    def step():
        # Some write nothing at most turns, some lead on and come round in order, some begin all words alike.
        word = random_word(random, most)
        if kind == 1 and random.random() < 0.6:
            word = ""
        if kind == 3:
            word = ("RL" + word)[:most]
        return word

    rows = []
    for state in range(states):
        followers = [random.randrange(states) for _ in "LR"]
        if kind == 2:
            followers[random.randrange(2)] = (state + 1) % states
        rows.append(((step(), followers[0]), (step(), followers[1]), step()))
    return (random_word(random, most), rows)


def some_machines(random, many, states=8, most=4):
    return [random_machine(random, random.randint(1, states), random.randint(0, most)) for _ in range(many)]


def renumbered(random, machine):
    """The same machine with all states but the first one numbered otherwise."""
    first, rows = machine
    order = list(range(1, len(rows)))
    random.shuffle(order)
    order = [0] + order
    place = {state: at for at, state in enumerate(order)}
    return (first, [
        ((rows[state][0][0], place[rows[state][0][1]]), (rows[state][1][0], place[rows[state][1][1]]), rows[state][2])
        for state in order])


def with_a_state_twice(random, machine):
    """The same machine with one state told twice, each of both followed by others as it may be."""
    first, rows = machine
    state, twin = random.randrange(len(rows)), len(rows)

    def to(follower):
        return random.choice((state, twin)) if follower == state else follower

    return (first, [
        ((left, to(after_left)), (right, to(after_right)), end)
        for (left, after_left), (right, after_right), end in rows + [rows[state]]])


def with_lost_states(random, machine):
    """The same machine with states behind it that cannot be come to."""
    first, rows = machine
    many = len(rows) + 2
    lost = [((random_word(random, 3), random.randrange(many)), (random_word(random, 3), random.randrange(many)),
             random_word(random, 3)) for _ in range(2)]
    return (first, rows + lost)


def late(machine):
    """The same machine, which writes what it would write at a turn only at the next one or at the end."""
    first, rows = machine
    places = {(0, first): 0}
    order = [(0, first)]
    made = []
    while len(made) < len(order):
        state, pending = order[len(made)]
        steps = []
        for word, follower in rows[state][:2]:
            if (follower, word) not in places:
                places[(follower, word)] = len(order)
                order.append((follower, word))
            steps.append((pending, places[(follower, word)]))
        made.append((*steps, pending + rows[state][2]))
    return ("", made)


def told_otherwise(random, machine):
    """Machines that write the same for every road."""
    return [
        renumbered(random, machine), with_a_state_twice(random, machine), with_lost_states(random, machine),
        late(machine), with_lost_states(random, with_a_state_twice(random, renumbered(random, machine)))]


def with_one_change(random, machine):
    """A machine with one word or one state changed."""
    first, rows = machine
    rows = [list(map(list, row[:2])) + [row[2]] for row in rows]
    row = random.choice(rows)
    what = random.randrange(4)
    if what < 2:
        row[what][0] = random_word(random, 4)
    elif what == 2:
        row[random.randrange(2)][1] = random.randrange(len(rows))
    else:
        row[2] = random_word(random, 4)
    return (first, [(tuple(left), tuple(right), end) for left, right, end in rows])


def with_ends(random, machine, most):
    """A machine with all its ends changed."""
    return (machine[0], [(left, right, random_word(random, most)) for left, right, _ in machine[1]])


def full(machine, road):
    """All that a machine writes for a road."""
    return machine[0] + written(machine, road)


def come_to(machine):
    """The states that can be come to, in the order in which they are if all roads are gone through."""
    found = [0]
    for state in found:
        for _, follower in machine[1][state][:2]:
            if follower not in found:
                found.append(follower)
    return found


def sure_rest(machine):
    """For each state what all roads from it on, up to a length that is long enough, write alike."""
    rows = machine[1]
    sure = [row[2] for row in rows]
    for _ in range(4 * len(rows) + 40):
        sure = [
            common_beginning([end, left + sure[after_left], right + sure[after_right]])
            for (left, after_left), (right, after_right), end in rows]
    return sure


def sure_steps(machine):
    """For each state what its least form writes at L and at R there: pairs of a word and the state that follows."""
    sure = sure_rest(machine)
    return [
        [((word + sure[follower])[len(sure[state]):], follower) for word, follower in row[:2]]
        for state, row in enumerate(machine[1])]


def sure_beginning(machine, road):
    """What is sure of what a machine writes once a road was read."""
    word, state = led(machine, road)
    return machine[0] + word + sure_rest(machine)[state]


def written_without_end(machine, course, rounds=40):
    """What is sure once a course came round so often, and whether more is written at each time."""
    ahead, ring = course
    word, state = led(machine, ahead)
    words, seen = [machine[0] + word], []
    for _ in range(rounds):
        seen.append(state)
        word, state = led(machine, ring, state)
        words.append(word)
    again = words[1 + seen.index(state):] if state in seen else words[1:]
    goes_on = any(again)
    return "".join(words) + ("" if goes_on else sure_rest(machine)[state]), goes_on


def first_unlike_road(one, other, most):
    """The first road, of at most so many turns, for which two machines write unlike roads."""
    return next((road for road in all_roads(most) if full(one, road) != full(other, road)), None)


def lower(one, other):
    """Whether one road tells less than another one."""
    (above, below), (other_above, other_below) = told(one), told(other)
    return above * other_below < other_above * below
