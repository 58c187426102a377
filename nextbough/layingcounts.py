"""How many layings there are."""

from nextbough.checks import is_below, need
from nextbough.trees import forks_in, plain_tree, shape_tree


def count_layings(plain, chip):
    """How many layings of plain on the chip there are."""
    return count_from(plain_tree(plain, "plain"), shape_tree(chip, "chip"), ())


def count_begun(plain, chip, begun):
    """How many layings have begun as their first images."""
    tree = plain_tree(plain, "plain")
    board = shape_tree(chip, "chip")
    need(isinstance(begun, tuple) and len(begun) <= len(tree.leaves), "begun")
    for queue in begun:
        need(is_below(queue, len(board.leaves)), "begun")
    return count_from(tree, board, begun)


def count_from(tree, board, begun):
    """How many layings of the tree's shape on the board's have begun as their first images."""
    return tally(tree, board, start_worths(tree, board, begun))


def count_next(tree, board, begun):
    """For each queue of the board, how many layings have begun and then it as their first images."""
    # All counts come at once, each in figures of its own: a way of the next queue of the tree to
    # lie at a queue of the board counts as a power of two, so far apart that no sum reaches the next.
    width = len(tree.leaves) * len(board.leaves).bit_length()
    worths = start_worths(tree, board, begun)
    row = worths[len(begun)]
    worths[len(begun)] = [worth << (width * queue) for queue, worth in enumerate(row)]
    total = tally(tree, board, worths)
    return [total >> (width * queue) & ((1 << width) - 1) for queue in range(len(board.leaves))]


def start_worths(tree, board, begun):
    """For each queue of the tree and each of the board: 1 if, as begun tells, the one may lie at the other."""
    many = len(board.leaves)
    worths = [[1 if queue == image else 0 for queue in range(many)] for image in begun]
    # An image that begun names needs no zeros here: no second queue comes to lie where one lies.
    return worths + [[1] * many for _ in range(len(tree.leaves) - len(begun))]


def tally(tree, board, worths):
    """The sum, over all layings, of the product of the worths of each queue at its image."""
    if not tree.kids[0]:
        return sum(worths[0])
    table = {fork: {} for fork in forks_in(tree)}
    for node in reversed(range(len(board.kids))):
        for fork in reversed(forks_in(tree)):
            if board.kids[node]:
                table[fork][node] = sums_at(tree, board, table, fork, node)
            else:
                table[fork][node] = queue_sums(tree, board, worths, fork, node)
    return sum_whole(tree, table, 0, 0)


def queue_sums(tree, board, worths, fork, node):
    """By mask of children of the fork, the worth of the way to lie in a queue of the board, where it is not 0."""
    sums = {0: 1}
    for place, kid in enumerate(tree.kids[fork]):
        worth = 0 if tree.kids[kid] else worths[tree.lows[kid]][board.lows[node]]
        if worth > 0:
            sums[1 << place] = worth
    return sums


def sums_at(tree, board, table, fork, node):
    """By mask of children of the fork, the sum over the ways to lie in a fork of the board, where it is not 0."""
    sums = {0: 1}
    for part in board.kids[node]:
        sums = joined_sums(sums, table[fork][part])
    for place, kid in enumerate(tree.kids[fork]):
        whole = sum_whole(tree, table, kid, node) if tree.kids[kid] else 0
        # A fork alone may spread over several children of the node; the ways within one are among these.
        if whole > 0:
            sums[1 << place] = whole
    return sums


def sum_whole(tree, table, fork, node):
    """The sum over the ways of the whole fork to lie in the node."""
    return table[fork][node].get((1 << len(tree.kids[fork])) - 1, 0)


def joined_sums(sums, more):
    """The sums over the ways that are one of sums beside one of more, with different children."""
    joined = {}
    for one, left in sums.items():
        for other, right in more.items():
            if one & other == 0:
                joined[one | other] = joined.get(one | other, 0) + left * right
    return joined
