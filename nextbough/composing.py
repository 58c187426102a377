"""Plans made of plans."""

from nextbough.checks import need
from nextbough.cutting import kept_queues
from nextbough.plainforms import plainly
from nextbough.plans import Plan, need_plan


def led_on(plan, other):
    """The plan of the plan's plain shape on the other's chip, the one led on by the other."""
    need_plan(plan, "plan")
    need(isinstance(other, Plan) and other.tree.form == plainly(plan.board.form), "other")
    images = tuple([other.images[image] for image in plan.images])
    return Plan(plan.tree.form, other.board.form, images)


def cut_plan(plan):
    """The plan of the plain shape on what is left of the chip with the images alone."""
    need_plan(plan, "plan")
    held = sorted(plan.images)
    chip = kept_queues(plan.board.form, tuple(held))
    return Plan(plan.tree.form, chip, tuple([held.index(image) for image in plan.images]))
