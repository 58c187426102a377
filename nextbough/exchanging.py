"""Standings in which one bough is exchanged for another shape, to which its packets are led on."""

from nextbough.checks import is_numbers, need
from nextbough.cutting import replaced_bough
from nextbough.standings import Standing, need_standing, order_at, standing_with
from nextbough.trees import need_node


def exchanged(standing, node, form, queues):
    """The standing with form in the place of the bough of node, whose packets lie at these queues of form."""
    need_standing(standing, "standing")
    tree = standing.tree
    need_node(tree, node, "node")
    inner = Standing(form)
    numbers = order_at(tree, standing.lines, node)
    need(is_numbers(queues, len(numbers), len(inner.tree.leaves)), "queues")
    for number, queue in zip(numbers, queues):
        inner.push(number, queue, ((),) * len(inner.tree.paths[queue]))
    lines = standing.lines[:node] + inner.lines + standing.lines[tree.ends[node]:]
    return standing_with(replaced_bough(tree.form, node, form), lines)
