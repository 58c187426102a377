"""What is a rank, a line, a way, and what are events."""

from nextbough.checks import PACKET_BOUND, is_below, is_integer
from nextbough.trees import need_queue, shape_tree

MOST_INTEGERS = 8
RANK_BOUND = 1 << 200


def is_rank(thing):
    """Whether thing is a rank."""
    if not isinstance(thing, tuple) or len(thing) > MOST_INTEGERS:
        return False
    for part in thing:
        if not is_integer(part) or not -RANK_BOUND < part < RANK_BOUND:
            return False
    return True


def is_line(thing):
    """Whether thing is a line; its items may be any values."""
    if not isinstance(thing, tuple):
        return False
    last = ()
    for entry in thing:
        if not isinstance(entry, tuple) or len(entry) != 2:
            return False
        rank = entry[0]
        if not is_rank(rank) or rank < last:
            return False
        last = rank
    return True


def are_ranks(form, queue, thing):
    """Whether thing is a tuple of ranks, one for each node of the path of queue."""
    tree = shape_tree(form, "form")
    need_queue(tree, queue, "queue")
    return fit_path(tree, queue, thing)


def fit_path(tree, queue, thing):
    """Whether thing is a tuple of ranks, one for each node of the path of the queue."""
    if not isinstance(thing, tuple) or len(thing) != len(tree.paths[queue]):
        return False
    return all([is_rank(rank) for rank in thing])


def is_way(tree, queue, ranks):
    """Whether the two are a queue of the tree and its ranks."""
    return is_below(queue, len(tree.leaves)) and fit_path(tree, queue, ranks)


def events_fit(form, thing):
    """Whether thing is a tuple of events that fit form."""
    return are_events(shape_tree(form, "form"), thing)


def are_events(tree, thing):
    """Whether thing is a tuple of events that fit the tree's shape."""
    if not isinstance(thing, tuple):
        return False
    pushed = {}
    for event in thing:
        if not is_event(tree, event):
            return False
        if event[0] == "push":
            if event[1] in pushed:
                return False
            pushed[event[1]] = True
    return True


def is_event(tree, thing):
    """Whether thing is a departure, or a push on a way of the tree's shape."""
    if not isinstance(thing, tuple):
        return False
    if len(thing) == 1:
        return thing[0] == "depart"
    if len(thing) != 4 or thing[0] != "push":
        return False
    return is_below(thing[1], PACKET_BOUND) and is_way(tree, thing[2], thing[3])
