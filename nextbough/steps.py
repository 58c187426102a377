"""Pushes behind all others, and pushes that hop over a packet."""

from nextbough.checks import need
from nextbough.insertings import LEAST_GAP, is_single, plain_places, ranks_at
from nextbough.standings import is_present, need_standing, order_at
from nextbough.trees import is_within, meet_in, need_queue, side_toward


def back_ranks(standing, queue):
    """Ranks for a push at queue: behind all entries of the forks, ahead of those of the queue."""
    need_singles(standing)
    need_queue(standing.tree, queue, "queue")
    return back_ranks_in(standing, queue)


def need_singles(standing):
    """Refuses standing unless it is a Standing whose lines are all single."""
    need_standing(standing, "standing")
    for line in standing.lines:
        need(is_single(line), "standing")


def back_ranks_in(standing, queue):
    """What back_ranks tells; the integers may be beyond the bound of single lines."""
    ranks = []
    for node in standing.tree.paths[queue]:
        line = standing.lines[node]
        if not line:
            ranks.append((0,))
        elif standing.tree.kids[node]:
            ranks.append((line[-1][0][0] + 2,))
        else:
            ranks.append((line[0][0][0] - 2,))
    return tuple(ranks)


def hop_ranks(standing, queue, one, other):
    """Ranks for a push at queue by which one, other become the new packet, other, one."""
    need_singles(standing)
    tree = standing.tree
    need_queue(tree, queue, "queue")
    need(is_present(standing, one), "one")
    need(is_right_behind(standing, other, one), "other")
    here = tree.leaves[standing.seats[one]]
    top = meet_in(tree, here, tree.leaves[standing.seats[other]])
    child = tree.kids[top][side_toward(tree, top, here)]
    need(is_within(tree, tree.leaves[queue], child), "queue")
    path = tree.paths[queue]
    # Behind the entry of other the child comes once more: it then gives one, and the new packet ahead of other.
    places = [place_in(standing, node, other) + 1 for node in path[:path.index(child)]]
    below = plain_places(standing, queue, child, place_in(standing, child, one))
    return ranks_at(standing, queue, tuple(places) + below, LEAST_GAP)


def is_right_behind(standing, other, one):
    """Whether the packet other is at another queue than one, and right behind it in the order."""
    if not is_present(standing, other) or standing.seats[other] == standing.seats[one]:
        return False
    order = standing.order()
    return order.index(other) == order.index(one) + 1


def place_in(standing, node, number):
    """The place of the packet in the order of node."""
    return order_at(standing.tree, standing.lines, node).index(number)
