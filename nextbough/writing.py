"""Standings of a plain shape, written on the chip by a plan."""

from nextbough.plans import ABOVE, need_plan
from nextbough.standings import need_standing_of, standing_with
from nextbough.trees import is_within, side_toward


def write_standing(plan, standing):
    """The standing of the chip that comes of writing the standing of the plain shape."""
    need_plan(plan, "plan")
    need_standing_of(standing, plan.tree.form, "standing")
    return written(plan, standing)


def written(plan, standing):
    """What write_standing tells, the parameters being as stated."""
    lines = [written_line(plan, standing, node) for node in range(len(plan.board.kids))]
    return standing_with(plan.board.form, lines)


def written_line(plan, standing, node):
    """The line of a node of the chip."""
    owner = plan.owners[node]
    if owner is None:
        return []
    if owner == ABOVE:
        return [((), side_toward(plan.board, node, plan.tops[0]))] * standing.many_present()
    line = standing.lines[owner]
    if not plan.tree.kids[owner]:
        return line
    sides = sides_beneath(plan, owner, node)
    return [(rank, sides[child]) for rank, child in line if child in sides]


def sides_beneath(plan, owner, node):
    """For each child of the owner with its top beneath the node, the node's child toward this top."""
    sides = {}
    for child, kid in enumerate(plan.tree.kids[owner]):
        top = plan.tops[kid]
        # The node is no top of a child: it would be the child's own.
        if is_within(plan.board, top, node):
            sides[child] = side_toward(plan.board, node, top)
    return sides
