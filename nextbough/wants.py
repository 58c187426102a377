"""Seats: where a keeper puts the packets of each queue, and what they still want."""

from nextbough.checks import is_ascending, need
from nextbough.trees import forks_in, meet_in, plain_tree, shape_tree, side_toward


def is_seats(plain, chip, thing):
    """Whether thing is seats of plain on the chip."""
    return are_seats(plain_tree(plain, "plain"), shape_tree(chip, "chip"), thing)


def first_shared(plain, chip, seats):
    """The least (one, other, seat) of two queues that have this seat, or None."""
    tree = plain_tree(plain, "plain")
    board = shape_tree(chip, "chip")
    need(are_seats(tree, board, seats), "seats")
    return shared_in(seats)


def first_broken(plain, chip, seats):
    """The least want that is not kept, or None."""
    tree = plain_tree(plain, "plain")
    board = shape_tree(chip, "chip")
    need(are_seats(tree, board, seats), "seats")
    return broken_in(tree, board, seats)


def are_seats(tree, board, thing):
    """Whether thing is seats of the tree's shape on the board's."""
    if not isinstance(thing, tuple) or len(thing) != len(tree.leaves):
        return False
    return all([is_ascending(row, 1, len(board.leaves)) for row in thing])


def shared_in(rows):
    """The least (one, other, seat) of two rows that have this seat, or None; rows may be empty."""
    for one, row in enumerate(rows):
        for other in range(one + 1, len(rows)):
            common = [seat for seat in row if seat in rows[other]]
            if common:
                return (one, other, common[0])
    return None


def meet_depths(board):
    """For each two queues of the board the depth of their meet; a queue's meet with itself is the queue."""
    leaves = board.leaves
    return [[board.depths[meet_in(board, here, there)] for there in leaves] for here in leaves]


def broken_in(tree, board, rows):
    """The least want of the seats in rows that is not kept, or None."""
    depths = meet_depths(board)
    # nearest[queue][here]: the depth of the deepest meet of here and a seat of the queue.
    nearest = [[max([row[seat] for seat in seats]) for row in depths] for seats in rows]
    for fork in forks_in(tree):
        for one in range(tree.lows[fork], tree.highs[fork]):
            kid = tree.kids[fork][side_toward(tree, fork, tree.leaves[one])]
            others = [other for other in range(tree.lows[kid], tree.highs[kid]) if other != one]
            fars = list(range(tree.lows[fork], tree.lows[kid])) + list(range(tree.highs[kid], tree.highs[fork]))
            for other in others:
                for far in fars:
                    pair = broken_pair(depths, nearest[one], rows[other], rows[far])
                    if pair is not None:
                        return (fork, one, other, far, pair[0], pair[1])
    return None


def broken_pair(depths, nearest, heres, theres):
    """The least (here, there) whose meet has no meet of here and a seat of the one queue beneath it, or None."""
    for here in heres:
        for there in theres:
            # Both meets are on the path of here, so the deeper one is beneath the other.
            if depths[here][there] >= nearest[here]:
                return (here, there)
    return None
