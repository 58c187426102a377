"""Layings whose images are seats."""

from nextbough.checks import need
from nextbough.trees import plain_tree, shape_tree
from nextbough.wants import are_seats, broken_in, shared_in


def seat_laying(plain, chip, seats):
    """A laying whose images are seats of their queues."""
    tree = plain_tree(plain, "plain")
    board = shape_tree(chip, "chip")
    need(are_seats(tree, board, seats), "seats")
    need(shared_in(seats) is None and broken_in(tree, board, seats) is None, "seats")
    return first_seats(seats)


def first_seats(seats):
    """A laying whose images are seats, where none is shared and each want is kept: the first ones.

    Of two queues of one child of a fork, and a third one, far, of another child, let s be the lesser
    first seat of the two. As the want is kept, the other one has a seat t that is, with s, in a bough
    without the first seat of far. Its own first seat is from s to t, and so in this bough, too.
    Hence the bough of the meet of both lacks the first seat of far.
    """
    return tuple([row[0] for row in seats])
