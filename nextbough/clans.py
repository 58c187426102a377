"""Clans: the sets of queues that the forks of a shape hold."""

from nextbough.checks import is_ascending, is_count, need
from nextbough.plainforms import plainly
from nextbough.shapekinds import MOST_CHILDREN, need_shape
from nextbough.trees import ShapeTree, forks_in


def clans_of(form):
    """The clans of form, ascending."""
    need_shape(form, "form")
    tree = ShapeTree(plainly(form))
    return tuple(sorted([tuple(range(tree.lows[fork], tree.highs[fork])) for fork in forks_in(tree)]))


def crossing_of(many, rows):
    """The places of the first two of rows that cross, or None."""
    need_rows(many, rows)
    return first_crossing(rows)


def shape_of_clans(many, rows):
    """The shape whose clans are rows and that of all queues, and what its queues are called."""
    need_rows(many, rows)
    need(first_crossing(rows) is None, "rows")
    whole = (1 << many) - 1
    # A clan that holds another one comes behind it, as its mask is greater.
    masks = sorted(set([mask_of(row) for row in rows] + [whole]))
    boughs = [(1 << name, (), (name,)) for name in range(many)]
    if many == 1:
        masks = []
    for mask in masks:
        boughs = forked(boughs, mask)
    return boughs[0][1:]


def need_rows(many, rows):
    """Refuses many and rows unless they are as crossing_of asks."""
    need(is_count(many), "many")
    need(isinstance(rows, tuple), "rows")
    for row in rows:
        need(is_ascending(row, 2, many), "rows")


def mask_of(row):
    """The sum of 2 to the power of each number of the row."""
    mask = 0
    for number in row:
        mask |= 1 << number
    return mask


def first_crossing(rows):
    """The least pair of places whose rows cross, or None."""
    masks = [mask_of(row) for row in rows]
    for one in range(len(masks)):
        for other in range(one + 1, len(masks)):
            common = masks[one] & masks[other]
            if common not in (0, masks[one], masks[other]):
                return (one, other)
    return None


def forked(boughs, mask):
    """The boughs, with those in the mask made one fork; each is (mask, shape, names of its queues).

    The boughs stay sorted by their least name, as the fork stands where its first child stood.
    """
    kids = [bough for bough in boughs if bough[0] & mask]
    need(len(kids) <= MOST_CHILDREN, "rows")
    names = []
    for kid in kids:
        names.extend(kid[2])
    fork = (mask, tuple([kid[1] for kid in kids]), tuple(names))
    kept = []
    for bough in boughs:
        if bough == kids[0]:
            kept.append(fork)
        elif not bough[0] & mask:
            kept.append(bough)
    return kept
