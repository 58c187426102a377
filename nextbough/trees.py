"""Questions about the nodes of a shape."""

from nextbough.checks import is_below, need
from nextbough.shapekinds import need_plain, need_shape


class ShapeTree:
    """Answers questions about the nodes of form; it never changes.

    Its lists are by node: boughs, parents, kids, depths, sides (the node's number among the
    children of its parent, -1 for the root), lows and highs (its queues), ends (its greatest
    node plus 1); leaves and paths are by queue.
    """

    def __init__(self, form):
        need_shape(form, "form")
        self.form = form
        self.boughs = []
        self.parents = []
        self.kids = []
        self.depths = []
        self.sides = []
        self.lows = []
        self.highs = []
        self.ends = []
        self.leaves = []
        self.paths = []
        self._grow(form, (), -1)

    def _grow(self, bough, above, side):
        """Adds the nodes of the bough; above is the path that leads to it."""
        node = len(self.boughs)
        path = above + (node,)
        self.boughs.append(bough)
        self.parents.append(above[-1] if above else None)
        self.depths.append(len(above))
        self.sides.append(side)
        self.lows.append(len(self.leaves))
        self.kids.append(())
        self.highs.append(0)
        self.ends.append(0)
        if not bough:
            self.leaves.append(node)
            self.paths.append(path)
        kids = []
        for place, kid in enumerate(bough):
            kids.append(len(self.boughs))
            self._grow(kid, path, place)
        self.kids[node] = tuple(kids)
        self.highs[node] = len(self.leaves)
        self.ends[node] = len(self.boughs)

    def form_of(self):
        """The shape."""
        return self.form

    def bough_of(self, node):
        """The bough of node, as a shape."""
        need_node(self, node, "node")
        return self.boughs[node]

    def parent_of(self, node):
        """The node of which node is a child, or None for the root."""
        need_node(self, node, "node")
        return self.parents[node]

    def kids_of(self, node):
        """The children of node, in sequence."""
        need_node(self, node, "node")
        return self.kids[node]

    def depth_of(self, node):
        """How many nodes are above node."""
        need_node(self, node, "node")
        return self.depths[node]

    def low_of(self, node):
        """The least queue of node."""
        need_node(self, node, "node")
        return self.lows[node]

    def high_of(self, node):
        """The greatest queue of node, plus 1."""
        need_node(self, node, "node")
        return self.highs[node]

    def node_of(self, queue):
        """The node that queue is."""
        need_queue(self, queue, "queue")
        return self.leaves[queue]

    def queue_at(self, node):
        """The queue that node is, or None if it is a fork."""
        need_node(self, node, "node")
        return None if self.kids[node] else self.lows[node]

    def path_of(self, queue):
        """The nodes from the root down to queue."""
        need_queue(self, queue, "queue")
        return self.paths[queue]

    def meet_of(self, one, other):
        """The deepest node whose bough has both nodes."""
        need_node(self, one, "one")
        need_node(self, other, "other")
        return meet_in(self, one, other)

    def lies_in(self, node, top):
        """Whether node lies in the bough of top."""
        need_node(self, node, "node")
        need_node(self, top, "top")
        return is_within(self, node, top)

    def toward(self, node, down):
        """The number, among the children of node, of the one in whose bough down lies."""
        need_node(self, node, "node")
        need_node(self, down, "down")
        need(down != node and is_within(self, down, node), "down")
        return side_toward(self, node, down)


def need_node(tree, node, word):
    """Refuses the parameter called word unless it is a node of the tree."""
    need(is_below(node, len(tree.kids)), word)


def need_fork(tree, fork, word):
    """Refuses the parameter called word unless it is a fork of the tree."""
    need_node(tree, fork, word)
    need(len(tree.kids[fork]) > 0, word)


def need_queue(tree, queue, word):
    """Refuses the parameter called word unless it is a queue of the tree."""
    need(is_below(queue, len(tree.leaves)), word)


def shape_tree(form, word):
    """The tree of the parameter called word, a shape."""
    need_shape(form, word)
    return ShapeTree(form)


def plain_tree(plain, word):
    """The tree of the parameter called word, a plain shape."""
    need_plain(plain, word)
    return ShapeTree(plain)


def is_within(tree, node, top):
    """Whether node lies in the bough of top."""
    return top <= node < tree.ends[top]


def meet_in(tree, one, other):
    """The deepest node of the tree whose bough has both nodes."""
    top = one
    while not is_within(tree, other, top):
        top = tree.parents[top]
    return top


def side_toward(tree, node, down):
    """Which child of node has down, a node beneath node, in its bough."""
    step = down
    while tree.parents[step] != node:
        step = tree.parents[step]
    return tree.sides[step]


def forks_in(tree):
    """The forks of the tree, ascending."""
    return [node for node, kids in enumerate(tree.kids) if kids]
