"""Graphs: which ways lead where, how many there are, and which come round for ever.

A graph is a list that holds for each node the list of its steps: tuples (turn,
node that follows).
"""


def graph_from(start, steps_of):
    """Return the list of what can be come to from a start, in the order in which it is, and the graph of it."""
    found = [start]
    numbers = {start: 0}
    graph = []
    while len(graph) < len(found):
        own = []
        node = found[len(graph)]
        for turn, follower in steps_of(node):
            if follower not in numbers:
                numbers[follower] = len(found)
                found.append(follower)
            own.append((turn, numbers[follower]))
        graph.append(own)
    return found, graph


def first_way(graph, start, goal):
    """Return the turns of the first way from a node to another one that can be come to from it."""
    came = {start: ("", start)}
    found = [start]
    at = 0
    while goal not in came:
        node = found[at]
        at += 1
        for turn, follower in graph[node]:
            if follower not in came:
                came[follower] = (turn, node)
                found.append(follower)
    turns = []
    while goal != start:
        turn, goal = came[goal]
        turns.append(turn)
    turns.reverse()
    return "".join(turns)


def followers_in(graph):
    """Return for each node the list of the nodes that follow, as often as they do."""
    return [[follower for _, follower in own] for own in graph]


def backwards(followers):
    """Return for each node the list of the nodes that it follows, as often as it does."""
    forerunners = [[] for _ in followers]
    for node, own in enumerate(followers):
        for follower in own:
            forerunners[follower].append(node)
    return forerunners


def nodes_in_order(followers):
    """Return the list of the nodes, each behind all that it follows, without those in rounds and behind rounds."""
    waiting = [len(own) for own in backwards(followers)]
    ready = [first for first, number in enumerate(waiting) if number == 0]
    at = 0
    while at < len(ready):
        node = ready[at]
        at += 1
        for follower in followers[node]:
            waiting[follower] -= 1
            if waiting[follower] == 0:
                ready.append(follower)
    return ready


def number_of_ways(graph, goals):
    """Return how many ways lead from the first node, which leads to all, to goals, None if they are endless many."""
    followers = followers_in(graph)
    leading = nodes_leading_to(followers, goals)
    kept = [[follower for follower in own if leading[follower]] for own in followers]
    order = nodes_in_order(kept)
    if len(order) < len(kept):
        return None
    many = [0] * len(kept)
    many[0] = 1
    for node in order:
        for follower in kept[node]:
            many[follower] += many[node]
    return sum([many[goal] for goal in goals])


def nodes_leading_to(followers, goals):
    """Return for each node whether a way leads from it to a goal."""
    forerunners = backwards(followers)
    leading = [False] * len(followers)
    waiting = list(goals)
    while waiting:
        node = waiting.pop()
        if not leading[node]:
            leading[node] = True
            waiting.extend(forerunners[node])
    return leading


def endless_way(graph):
    """Return the turns of a way from the first node on that comes round for ever, None if there is none.

    They are told as a tuple of those ahead and those of the round.
    """
    ended = {last: True for last in nodes_in_order(backwards(followers_in(graph)))}
    if 0 in ended:
        return None
    node = 0
    turns = []
    places = {}
    while node not in places:
        places[node] = len(turns)
        turn, node = [step for step in graph[node] if step[1] not in ended][0]
        turns.append(turn)
    at = places[node]
    return "".join(turns[:at]), "".join(turns[at:])


def rounds_of(followers):
    """Return for each node a number that it shares with just those from which ways lead to it and back."""
    forerunners = backwards(followers)
    order = nodes_as_they_end(followers)
    order.reverse()
    shared = [-1] * len(followers)
    for number, start in enumerate(order):
        waiting = [start]
        while waiting:
            node = waiting.pop()
            if shared[node] == -1:
                shared[node] = number
                waiting.extend(forerunners[node])
    return shared


def nodes_as_they_end(followers):
    """Return the list of the nodes in the order in which a search, ever further ahead, is done with them."""
    order = []
    seen = [False] * len(followers)
    for start in range(len(followers)):
        waiting = [(start, 0)]
        while waiting:
            node, at = waiting.pop()
            if at == 0 and seen[node]:
                continue
            seen[node] = True
            if at == len(followers[node]):
                order.append(node)
            else:
                waiting.append((node, at + 1))
                waiting.append((followers[node][at], 0))
    return order
