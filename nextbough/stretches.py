"""How far two children of a fork get apart while both wait."""

from nextbough.checks import need
from nextbough.logs import is_log
from nextbough.shapekinds import MOST_CHILDREN
from nextbough.strides import are_weights, need_children, strides_of


def worst_stretch(log, weights, one, other):
    """The greatest difference, over all stretches, of the departures of the two children times their strides."""
    need(is_log(log), "log")
    need(are_weights(weights), "weights")
    need_children(one, other, len(weights))
    strides = strides_of(weights)
    worst = 0
    for row in longest_stretches(log, one, other):
        # A stretch is a part of a longest one; what is between two sums is its difference.
        total = 0
        sums = [0]
        for child in row:
            if child == one:
                total += strides[one]
            elif child == other:
                total -= strides[other]
            sums.append(total)
        worst = max(worst, max(sums) - min(sums))
    return worst


def longest_wait(log, one, other):
    """The most departures of other in a stretch without one of one."""
    need(is_log(log), "log")
    need_children(one, other, MOST_CHILDREN)
    most = 0
    for row in longest_stretches(log, one, other):
        many = 0
        for child in row:
            if child == one:
                many = 0
            elif child == other:
                many += 1
                most = max(most, many)
    return most


def longest_stretches(log, one, other):
    """The stretches that are no part of longer ones, each as the list of the children that depart."""
    counts = [0] * MOST_CHILDREN
    rows = [[]]
    for word, child in log:
        if word == "in":
            counts[child] += 1
            continue
        if counts[one] > 0 and counts[other] > 0:
            rows[-1].append(child)
        else:
            rows.append([])
        counts[child] -= 1
    return rows
