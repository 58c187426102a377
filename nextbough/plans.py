"""Plans: a plain shape, a chip, and a laying of the one on the other."""

from nextbough.checks import need
from nextbough.layingkinds import need_images, top_in
from nextbough.trees import is_within, need_node, need_queue, plain_tree, shape_tree

# The owner of the nodes above the top of the root.
ABOVE = -1


class Plan:
    """A plan; it never changes.

    tree is that of the plain shape, board that of the chip; tops are by node of the plain shape,
    owners by node of the chip.
    """

    def __init__(self, plain, chip, images):
        self.tree = plain_tree(plain, "plain")
        self.board = shape_tree(chip, "chip")
        need_images(self.tree, self.board, images)
        self.images = images
        self.tops = [top_in(self.tree, self.board, images, node) for node in range(len(self.tree.kids))]
        self.owners = owners_of(self.tree, self.board, images, self.tops)

    def plain_of(self):
        """The plain shape."""
        return self.tree.form

    def chip_of(self):
        """The chip."""
        return self.board.form

    def images_of(self):
        """The images."""
        return self.images

    def image_of(self, queue):
        """The image of a queue of the plain shape."""
        need_queue(self.tree, queue, "queue")
        return self.images[queue]

    def top_at(self, node):
        """The node of the chip that is the top of a node of the plain shape."""
        need_node(self.tree, node, "node")
        return self.tops[node]

    def owner_at(self, node):
        """The owner of a node of the chip, or None if the node is not used."""
        need_node(self.board, node, "node")
        return self.owners[node]


def owners_of(tree, board, images, tops):
    """The owners of all nodes of the board."""
    owners = [None] * len(board.kids)
    # Nodes of the tree come behind those above them, so the deepest one tells the owner.
    for node, top in enumerate(tops):
        for image in images[tree.lows[node]:tree.highs[node]]:
            for step in board.paths[image]:
                if is_within(board, step, top):
                    owners[step] = node
                elif node == 0:
                    owners[step] = ABOVE
    return owners


def need_plan(plan, word):
    """Refuses the parameter called word unless it is a Plan."""
    need(isinstance(plan, Plan), word)
