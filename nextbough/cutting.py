"""Shapes of which some queues or forks are cut away or replaced."""

from nextbough.checks import is_ascending, need
from nextbough.plainforms import plainly
from nextbough.shapekinds import MOST_CHILDREN, need_shape
from nextbough.trees import need_fork, need_node, need_queue, shape_tree


def kept_queues(form, queues):
    """The plain form of what is left of form with these queues alone."""
    tree = shape_tree(form, "form")
    many = len(tree.leaves)
    need(is_ascending(queues, 1, many), "queues")
    keeps = [False] * many
    for queue in queues:
        keeps[queue] = True
    return plainly(left_of(tree, 0, keeps))


def struck(form, queue):
    """What is left of form without this queue."""
    tree = shape_tree(form, "form")
    need_queue(tree, queue, "queue")
    many = len(tree.leaves)
    need(many > 1, "queue")
    keeps = [True] * many
    keeps[queue] = False
    return left_of(tree, 0, keeps)


def left_of(tree, node, keeps):
    """What is left of the node's bough with the queues that are kept; None if none is."""
    if not tree.kids[node]:
        return () if keeps[tree.lows[node]] else None
    parts = [left_of(tree, kid, keeps) for kid in tree.kids[node]]
    left = [part for part in parts if part is not None]
    return tuple(left) if left else None


def contracted(form, fork):
    """Form with the children of fork in the place of fork."""
    tree = shape_tree(form, "form")
    need_fork(tree, fork, "fork")
    need(fork != 0, "fork")
    kids = tree.kids[fork]
    need(len(tree.kids[tree.parents[fork]]) - 1 + len(kids) <= MOST_CHILDREN, "fork")
    return swapped(tree, 0, fork, tree.boughs[fork])


def replaced_bough(form, node, other):
    """Form with the shape other in the place of the bough of node."""
    tree = shape_tree(form, "form")
    need_node(tree, node, "node")
    need_shape(other, "other")
    return other if node == 0 else swapped(tree, 0, node, (other,))


def swapped(tree, node, gone, boughs):
    """The bough of node, with these boughs in the place of the node gone, which is beneath it."""
    parts = []
    for kid in tree.kids[node]:
        if kid == gone:
            parts.extend(boughs)
        else:
            parts.append(swapped(tree, kid, gone, boughs))
    return tuple(parts)
