"""The lines of composites: on chips, where they lie by the least laying, or on their own trees."""

from nextbough.chiplines import ChipLines
from nextbough.errors import NoLaying
from nextbough.leastlayings import least_laying
from nextbough.packing import fits_on
from nextbough.plans import Plan
from nextbough.reading import read_back_by
from nextbough.shapekinds import many_queues
from nextbough.standings import Standing
from nextbough.trees import ShapeTree
from nextbough.writing import written


class LaidLines(ChipLines):
    """The lines of a composite on the chip."""

    def __init__(self, form, chip):
        ChipLines.__init__(self, least_plan(form, chip))
        self.chip = chip

    def composite(self):
        """The standing of the composite."""
        return read_back_by(self.plan, self.held)

    def lay(self, standing, chip):
        """From now on the composite has this standing, on this chip; NoLaying if it cannot be laid there."""
        plan = least_plan(standing.tree.form, chip)
        self.held = written(plan, standing)
        self.plan = plan
        self.chip = chip


class TreeLines:
    """The lines of a composite on its own tree; of the chip it matters only what can be laid on it."""

    def __init__(self, form, chip):
        need_laying(form, chip)
        self.chip = chip
        self.held = Standing(form)

    def push(self, number, queue, ranks):
        """Pushes the packet."""
        self.held.push(number, queue, ranks)

    def depart(self):
        """A departure: the packet, its queue and the ranks, or None."""
        return self.held.depart()

    def composite(self):
        """The standing of the composite."""
        return self.held.twin()

    def lay(self, standing, chip):
        """From now on the composite has this standing; NoLaying if it cannot be laid on the chip."""
        need_laying(standing.tree.form, chip)
        self.held = standing
        self.chip = chip


def least_plan(form, chip):
    """The plan of the least laying of the plain shape on the chip, each queue having the weight 1."""
    return Plan(form, chip, least_laying(form, chip, (1,) * many_queues(form))[1])


def need_laying(form, chip):
    """Raises NoLaying if the plain shape cannot be laid on the chip."""
    if not fits_on(ShapeTree(form), ShapeTree(chip)):
        raise NoLaying()
