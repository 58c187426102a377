"""The orders of nodes, and which pushes change them."""

from nextbough.checks import PACKET_BOUND, is_below, need
from nextbough.standings import need_standing, order_at
from nextbough.trees import is_within, meet_in, need_node, need_queue, shape_tree, side_toward


def order_of(standing, node):
    """The order of node."""
    need_standing(standing, "standing")
    need_node(standing.tree, node, "node")
    return tuple(order_at(standing.tree, standing.lines, node))


def place_of(standing, node, number):
    """The place of the packet in the order of node."""
    need_standing(standing, "standing")
    need_node(standing.tree, node, "node")
    need(is_below(number, PACKET_BOUND), "number")
    queue = standing.seats.get(number)
    need(queue is not None and is_within(standing.tree, standing.tree.leaves[queue], node), "number")
    return order_at(standing.tree, standing.lines, node).index(number)


def may_turn(form, queue, one, other):
    """Whether in some standing a push at queue changes the sequence of two packets at one and other."""
    tree = shape_tree(form, "form")
    need_queue(tree, queue, "queue")
    need_queue(tree, one, "one")
    need_queue(tree, other, "other")
    if one == other:
        return False
    here = tree.leaves[one]
    there = tree.leaves[other]
    pushed = tree.leaves[queue]
    top = meet_in(tree, here, there)
    kids = tree.kids[top]
    return is_within(tree, pushed, kids[side_toward(tree, top, here)]) or is_within(
        tree, pushed, kids[side_toward(tree, top, there)]
    )
