"""The lines of a plain shape, carried by a chip."""

from nextbough.standings import Standing
from nextbough.ways import led_way


class ChipLines:
    """The lines of the plan's plain shape on its chip; held is the standing of the chip."""

    def __init__(self, plan):
        self.plan = plan
        self.held = Standing(plan.board.form)

    def push(self, number, queue, ranks):
        """Pushes the packet on a way of the plain shape."""
        image, led = led_way(self.plan, queue, ranks)
        self.held.push(number, image, led)

    def depart(self):
        """A departure: the packet, its queue and the ranks, as the plain shape has them, or None."""
        gone = self.held.depart()
        if gone is None:
            return None
        number, image, ranks = gone
        return (number,) + plain_way(self.plan, image, ranks)


def plain_way(plan, image, ranks):
    """The queue of the plain shape with this image, and its ranks: those taken at the tops of its path."""
    queue = plan.images.index(image)
    tops = [plan.tops[node] for node in plan.tree.paths[queue]]
    return (queue, tuple([ranks[plan.board.depths[top]] for top in tops]))
