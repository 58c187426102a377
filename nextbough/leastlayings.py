"""The laying of the least cost."""

from nextbough.checks import is_numbers, need
from nextbough.errors import NoLaying
from nextbough.trees import forks_in, plain_tree, shape_tree


def least_laying(plain, chip, weights):
    """The cost and the images of the laying of the least cost, the least images of several."""
    tree = plain_tree(plain, "plain")
    board = shape_tree(chip, "chip")
    need(is_numbers(weights, len(tree.leaves), None), "weights")
    if not tree.kids[0]:
        return min([(weights[0] * board.depths[node], (queue,)) for queue, node in enumerate(board.leaves)])
    best = best_whole(tree, cost_table(tree, board, weights), 0, 0)
    if best is None:
        raise NoLaying()
    return best


def cost_table(tree, board, weights):
    """For each fork of the tree, a dict by node of the board: the best ways to lie there.

    These are a dict by mask of children: (cost, parts); parts has for each child of the fork the
    images of its queues, () where it is not in the mask. Of ways with one mask the least pair is
    the best one also as part of a greater laying: what lies beside it does not depend on it.
    """
    table = {fork: {} for fork in forks_in(tree)}
    for node in reversed(range(len(board.kids))):
        for fork in reversed(forks_in(tree)):
            if board.kids[node]:
                table[fork][node] = best_ways(tree, board, table, fork, node)
            else:
                table[fork][node] = queue_ways(tree, board, weights, fork, node)
    return table


def queue_ways(tree, board, weights, fork, node):
    """The ways of children of the fork to lie in a queue of the board: at most one of them, a queue."""
    kids = tree.kids[fork]
    ways = {0: (0, ((),) * len(kids))}
    for place, kid in enumerate(kids):
        if not tree.kids[kid]:
            cost = weights[tree.lows[kid]] * board.depths[node]
            ways[1 << place] = (cost, part_alone(kids, place, (board.lows[node],)))
    return ways


def best_ways(tree, board, table, fork, node):
    """The best ways of children of the fork to lie in a fork of the board."""
    kids = tree.kids[fork]
    ways = {0: (0, ((),) * len(kids))}
    for part in board.kids[node]:
        ways = joined_ways(ways, table[fork][part])
    for place, kid in enumerate(kids):
        best = best_whole(tree, table, kid, node) if tree.kids[kid] else None
        # A fork alone may spread over several children of the node.
        if best is not None:
            ways[1 << place] = (best[0], part_alone(kids, place, best[1]))
    return ways


def part_alone(kids, place, images):
    """The parts of a way in which only the child at this place lies."""
    return tuple([images if at == place else () for at in range(len(kids))])


def best_whole(tree, table, fork, node):
    """The best cost and images of the whole fork in the node, or None."""
    way = table[fork][node].get((1 << len(tree.kids[fork])) - 1)
    if way is None:
        return None
    images = []
    for part in way[1]:
        images.extend(part)
    return (way[0], tuple(images))


def joined_ways(ways, more):
    """The best ways that are one of ways beside one of more, with different children."""
    joined = {}
    for one, left in ways.items():
        for other, right in more.items():
            if one & other == 0:
                parts = tuple([here if here else there for here, there in zip(left[1], right[1])])
                way = (left[0] + right[0], parts)
                mask = one | other
                if mask not in joined or way < joined[mask]:
                    joined[mask] = way
    return joined
