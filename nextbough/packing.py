"""Which children of a fork can lie together in a node of the chip."""

from nextbough.trees import forks_in, need_fork, need_node, plain_tree, shape_tree


def greatest_masks(plain, chip, fork, node):
    """The greatest sets of children of the fork that can lie in the node, each as a sum of 2 ** child."""
    tree = plain_tree(plain, "plain")
    board = shape_tree(chip, "chip")
    need_fork(tree, fork, "fork")
    need_node(board, node, "node")
    return tuple(mask_table(tree, board)[fork][node])


def can_lay(plain, chip):
    """Whether there is a laying of plain on the chip."""
    return fits_on(plain_tree(plain, "plain"), shape_tree(chip, "chip"))


def fits_on(tree, board):
    """Whether the tree's shape can be laid on the board's."""
    if not tree.kids[0]:
        return True
    return lies_whole(tree, mask_table(tree, board), 0, 0)


def mask_table(tree, board):
    """For each fork of the tree, a dict by node of the board: the ascending list of the greatest masks."""
    table = {fork: {} for fork in forks_in(tree)}
    # What lies in a node comes of what lies in its children, and of the forks beneath.
    for node in reversed(range(len(board.kids))):
        for fork in reversed(forks_in(tree)):
            table[fork][node] = masks_at(tree, board, table, fork, node)
    return table


def masks_at(tree, board, table, fork, node):
    """The greatest masks of the fork at the node; those of forks and nodes with greater numbers are known."""
    kids = tree.kids[fork]
    if not board.kids[node]:
        alone = [1 << place for place, kid in enumerate(kids) if not tree.kids[kid]]
        return alone if alone else [0]
    masks = [0]
    for part in board.kids[node]:
        masks = greatest([one | other for one in masks for other in table[fork][part]])
    # A fork that spreads over several children of the node lies there alone.
    for place, kid in enumerate(kids):
        if tree.kids[kid] and lies_whole(tree, table, kid, node):
            masks = masks + [1 << place]
    return greatest(masks)


def lies_whole(tree, table, fork, node):
    """Whether all children of the fork can lie in the node."""
    return table[fork][node] == [(1 << len(tree.kids[fork])) - 1]


def greatest(masks):
    """Those of the masks that no other one has within it, ascending."""
    rows = sorted(set(masks))
    return [mask for mask in rows if not any([mask & other == mask and mask != other for other in rows])]
