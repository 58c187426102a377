"""What happens to a bough alone."""

from nextbough.checks import need
from nextbough.rankkinds import are_events
from nextbough.standings import Standing
from nextbough.trees import need_node, shape_tree


def bough_events(form, events, node):
    """The events of the bough of node when these events happen in an empty standing of form."""
    tree = shape_tree(form, "form")
    need(are_events(tree, events), "events")
    need_node(tree, node, "node")
    held = Standing(form)
    found = []
    for event in events:
        if event[0] == "push":
            queue = event[2]
            held.push(event[1], queue, event[3])
        else:
            gone = held.depart()
            queue = None if gone is None else gone[1]
        if queue is None or not tree.lows[node] <= queue < tree.highs[node]:
            continue
        if event[0] == "push":
            found.append(("push", event[1], queue - tree.lows[node], event[3][tree.depths[node]:]))
        else:
            found.append(event)
    return tuple(found)
