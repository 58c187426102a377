"""Layings whose images are seats."""

from nextbough.checks import need
from nextbough.trees import plain_tree, shape_tree
from nextbough.wants import are_seats, broken_in, meet_depths, shared_in


def seat_laying(plain, chip, seats):
    """A laying whose images are seats of their queues."""
    tree = plain_tree(plain, "plain")
    board = shape_tree(chip, "chip")
    need(are_seats(tree, board, seats), "seats")
    need(shared_in(seats) is None and broken_in(tree, board, seats) is None, "seats")
    return laying_in(tree, board, seats)


def laying_in(tree, board, seats):
    """A laying whose images are seats, where none is shared and each want is kept."""
    images = [row[0] for row in seats]
    gather(tree, meet_depths(board), seats, 0, 0, images)
    return tuple(images)


def gather(tree, depths, seats, node, queue, images):
    """Gives the queues of the node's bough images around that of the queue, one of them.

    Each other child of a fork on the way sends one of its queues to the seat nearest to this image.
    As the wants of the fork above are kept, the seat is nearer than all seats of queues outside the
    fork; as the fork's own are kept, this child's images then gather around that seat alone.
    """
    for kid in tree.kids[node]:
        first = queue
        if not tree.lows[kid] <= queue < tree.highs[kid]:
            first = tree.lows[kid]
            near = depths[images[queue]]
            images[first] = max(seats[first], key=lambda seat: near[seat])
        gather(tree, depths, seats, kid, first, images)
