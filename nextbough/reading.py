"""Standings of a chip, read back by a plan."""

from nextbough.checks import need
from nextbough.errors import Unwritten
from nextbough.plans import ABOVE, Plan, need_plan
from nextbough.standings import need_standing_of, standing_with
from nextbough.trees import side_toward
from nextbough.writing import written


def follows_plan(plan, standing):
    """Whether the standing of the chip follows the plan."""
    need_read(plan, standing)
    return first_unwritten(plan, standing) is None


def read_standing(plan, standing):
    """The standing of the plain shape for which the standing of the chip is written."""
    need_read(plan, standing)
    return read_back_by(plan, standing)


def move_standing(plan, standing, other):
    """The standing, read by the plan, and then written by the other one."""
    need_read(plan, standing)
    need(isinstance(other, Plan) and other.tree.form == plan.tree.form, "other")
    return written(other, read_back_by(plan, standing))


def need_read(plan, standing):
    """Refuses plan and standing unless they are a plan and a standing of its chip."""
    need_plan(plan, "plan")
    need_standing_of(standing, plan.board.form, "standing")


def read_back_by(plan, standing):
    """What read_standing tells, the parameters being as stated."""
    node = first_unwritten(plan, standing)
    if node is not None:
        raise Unwritten(node)
    lines = []
    for owner, top in enumerate(plan.tops):
        line = standing.lines[top]
        if plan.tree.kids[owner]:
            kids = kids_named(plan, standing, owner, top)
            line = [(entry[0], kid) for entry, kid in zip(line, kids)]
        lines.append(line)
    return standing_with(plan.tree.form, lines)


def kids_named(plan, standing, owner, node):
    """For each entry of the line of a node that the fork owns, the child of the fork to which it leads."""
    parts = plan.board.kids[node]
    below = []
    for part in parts:
        is_between = plan.owners[part] == owner
        below.append(kids_named(plan, standing, owner, part) if is_between else None)
    read = [0] * len(parts)
    named = []
    for _, child in standing.lines[node]:
        if below[child] is None:
            named.append(plan.tree.sides[plan.owners[parts[child]]])
        else:
            named.append(below[child][read[child]])
            read[child] += 1
    return named


def first_unwritten(plan, standing):
    """The least used node where the standing is not as it would be if it followed the plan, or None."""
    for node, owner in enumerate(plan.owners):
        if owner is not None and not is_written(plan, standing, node, owner):
            return node
    return None


def is_written(plan, standing, node, owner):
    """Whether the line of a used node is as (G6) tells."""
    line = standing.lines[node]
    if owner == ABOVE:
        entry = ((), side_toward(plan.board, node, plan.tops[0]))
        return all([held == entry for held in line])
    if not plan.tree.kids[owner]:
        return True
    for _, child in line:
        if plan.owners[plan.board.kids[node][child]] is None:
            return False
    if node == plan.tops[owner]:
        return True
    side = plan.board.sides[node]
    above = [rank for rank, child in standing.lines[plan.board.parents[node]] if child == side]
    return [rank for rank, _ in line] == above
