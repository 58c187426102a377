"""Parts of standings: one bough alone, or another shape in its place."""

from nextbough.cutting import replaced_bough
from nextbough.checks import need
from nextbough.shapekinds import many_nodes, need_shape
from nextbough.standings import need_standing, standing_with
from nextbough.trees import need_node


def bough_standing(standing, node):
    """The standing of the bough of node, with the lines of its nodes."""
    need_standing(standing, "standing")
    tree = standing.tree
    need_node(tree, node, "node")
    return standing_with(tree.boughs[node], standing.lines[node:tree.ends[node]])


def grafted(standing, node, form):
    """The standing with form in the place of the bough of node, in which no packet lies."""
    need_standing(standing, "standing")
    tree = standing.tree
    need_node(tree, node, "node")
    need(len(standing.lines[node]) == 0, "node")
    need_shape(form, "form")
    empty = [()] * many_nodes(form)
    lines = standing.lines[:node] + empty + standing.lines[tree.ends[node]:]
    return standing_with(replaced_bough(tree.form, node, form), lines)
