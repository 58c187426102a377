"""Pushes that make two packets neighbours."""

from nextbough.checks import need
from nextbough.standings import is_present
from nextbough.steps import back_ranks_in, need_singles


def neighbour_pushes(standing, one, other):
    """Pushes of new packets behind which one is right ahead of other: pairs (queue, ranks)."""
    need_singles(standing)
    need(is_present(standing, one), "one")
    need(is_present(standing, other) and standing.seats[one] != standing.seats[other], "other")
    here = standing.seats[one]
    there = standing.seats[other]
    queues = [here, there] + [here] * many_behind(standing, one) + [there] * many_behind(standing, other)
    held = standing.twin()
    number = 0
    pushes = []
    for queue in queues:
        while number in held.seats:
            number += 1
        ranks = back_ranks_in(held, queue)
        held.push(number, queue, ranks)
        pushes.append((queue, ranks))
    return tuple(pushes)


def many_behind(standing, number):
    """How many packets are behind this one in its line."""
    line = standing.lines[standing.tree.leaves[standing.seats[number]]]
    return len(line) - 1 - [entry[1] for entry in line].index(number)
