"""Deeds of policies, and the logs of their forks."""

from nextbough.checks import is_below, need
from nextbough.factkinds import CLASS_BOUND
from nextbough.policies import need_policy, route_in
from nextbough.shapekinds import MOST_CHILDREN
from nextbough.trees import is_within, need_fork, side_toward


def are_deeds(policy, thing):
    """Whether thing is a tuple of deeds of the policy."""
    need_policy(policy, "policy")
    if not are_words(thing):
        return False
    # For each packet, by its number, whether it is present.
    present = []
    for word, number in thing:
        if word == "in":
            if not is_below(number, CLASS_BOUND):
                return False
            present.append(True)
        elif not is_below(number, len(present)) or not present[number]:
            return False
        else:
            present[number] = False
    return True


def are_words(thing):
    """Whether thing is a tuple of pairs that begin with in or out."""
    if not isinstance(thing, tuple):
        return False
    for pair in thing:
        if not isinstance(pair, tuple) or len(pair) != 2:
            return False
        if not isinstance(pair[0], str) or pair[0] not in ("in", "out"):
            return False
    return True


def fork_log(policy, deeds, fork):
    """The log of the fork when the packets of the deeds come and depart."""
    need(are_deeds(policy, deeds), "deeds")
    tree = policy.tree
    need_fork(tree, fork, "fork")
    # The queues of the packets, by number.
    queues = []
    log = []
    for word, number in deeds:
        if word == "in":
            queues.append(route_in(policy, number)[0])
        node = tree.leaves[queues[-1] if word == "in" else queues[number]]
        if is_within(tree, node, fork):
            log.append((word, side_toward(tree, fork, node)))
    return tuple(log)


def is_log(thing):
    """Whether thing is a log of some fork."""
    if not are_words(thing):
        return False
    counts = [0] * MOST_CHILDREN
    for word, child in thing:
        if not is_below(child, MOST_CHILDREN) or word == "out" and counts[child] == 0:
            return False
        counts[child] += 1 if word == "in" else -1
    return True


def waiting(log, place):
    """The children that wait ahead of the pair at the place, or at the end."""
    need(is_log(log), "log")
    need(is_below(place, len(log) + 1), "place")
    counts = [0] * MOST_CHILDREN
    for word, child in log[:place]:
        counts[child] += 1 if word == "in" else -1
    return tuple([child for child, count in enumerate(counts) if count > 0])
