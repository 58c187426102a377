"""What is a laying, and where its tops are."""

from nextbough.checks import is_numbers, need
from nextbough.trees import forks_in, meet_in, need_node, plain_tree, shape_tree


def is_laying(plain, chip, thing):
    """Whether thing is a laying of plain on the chip."""
    return lays(plain_tree(plain, "plain"), shape_tree(chip, "chip"), thing)


def top_of(plain, chip, images, node):
    """The node of the chip that is the top of this node of plain."""
    tree = plain_tree(plain, "plain")
    board = shape_tree(chip, "chip")
    need_images(tree, board, images)
    need_node(tree, node, "node")
    return top_in(tree, board, images, node)


def need_images(tree, board, images):
    """Refuses images unless they are a laying of the tree's shape on the board's."""
    need(lays(tree, board, images), "images")


def lays(tree, board, thing):
    """Whether thing is a laying of the tree's shape on the board's."""
    many = len(tree.leaves)
    if not is_numbers(thing, many, len(board.leaves)) or len(set(thing)) != many:
        return False
    for fork in forks_in(tree):
        top = top_in(tree, board, thing, fork)
        held = [image for image in thing if board.lows[top] <= image < board.highs[top]]
        # The fork's own images are among them, so any further one shows in their number.
        if len(held) != tree.highs[fork] - tree.lows[fork]:
            return False
    return True


def top_in(tree, board, images, node):
    """The node of the board that is the top of this node of the tree."""
    own = images[tree.lows[node]:tree.highs[node]]
    return meet_in(board, board.leaves[min(own)], board.leaves[max(own)])
