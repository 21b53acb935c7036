"""Rounds in graphs whose steps have costs: the one that costs least for each of its steps.

For each node, all of which can be come to from the first one, stands the list
of its steps: tuples (cost, turn, node that follows), at least one.
"""

from leftroads.graphs import endless_way


def least_costs(steps):
    """Return, for each number of steps from 0 to that of all nodes, the list of the least costs of ways to each node.

    They begin at the first node; it is None where there is no such way.
    """
    costs = [0] + [None] * (len(steps) - 1)
    table = [costs]
    for _ in steps:
        costs = costs_behind(steps, costs)
        table.append(costs)
    return table


def costs_behind(steps, costs):
    """Return the list of the least costs of ways with one step more."""
    later = [None] * len(steps)
    for node, before in enumerate(costs):
        if before is not None:
            for cost, _, follower in steps[node]:
                whole = before + cost
                if later[follower] is None or whole < later[follower]:
                    later[follower] = whole
    return later


def least_mean(steps):
    """Return the cost of a round to the number of its steps, as a tuple, where this is least."""
    return mean_of_table(least_costs(steps))


def mean_of_table(table):
    """Return the least cost of a round to its steps, by the least costs of ways with each number of steps."""
    # A way with as many steps as there are nodes has come round; what it costs
    # more than a shorter one to the same node is never less, all in all, than
    # the least mean, and for some node just this (it has long been in print, Karp's).
    least = None
    for node, cost in enumerate(table[-1]):
        if cost is not None:
            greatest = greatest_mean(cost, [costs[node] for costs in table[:-1]])
            if least is None or is_less(greatest, least):
                least = greatest
    return least


def greatest_mean(cost, before):
    """Return the greatest of what a way costs more than shorter ones, each to the number of steps that it has more."""
    greatest = None
    for number, other in enumerate(before):
        if other is not None:
            mean = (cost - other, len(before) - number)
            if greatest is None or is_less(greatest, mean):
                greatest = mean
    return greatest


def is_less(one, other):
    """Return True if one cost to a number of steps is less than another one."""
    return one[0] * other[1] < other[0] * one[1]


def least_round(steps):
    """Return the turns ahead of a round that costs least to its steps, and those of this round."""
    table = least_costs(steps)
    mean_cost, mean_steps = mean_of_table(table)
    # Less the mean, no round costs less than nothing, so that there are least
    # costs of all ways to a node. Just the rounds with the least mean have only
    # steps at which these costs are kept.
    least = [
        min([mean_steps * costs[node] - mean_cost * number
             for number, costs in enumerate(table[:-1]) if costs[node] is not None])
        for node in range(len(steps))]
    return endless_way([
        [(turn, follower) for cost, turn, follower in own
         if least[node] + mean_steps * cost - mean_cost == least[follower]]
        for node, own in enumerate(steps)])
