"""Ways of a plain shape, led to the chip by a plan."""

from nextbough.checks import need
from nextbough.plans import ABOVE, need_plan
from nextbough.rankkinds import fit_path
from nextbough.trees import need_queue


def way_of(plan, queue, ranks):
    """The way, by the plan, of the way (queue, ranks)."""
    need_plan(plan, "plan")
    need_way(plan.tree, queue, ranks)
    return led_way(plan, queue, ranks)


def need_way(tree, queue, ranks):
    """Refuses queue and ranks unless they are a way of the tree's shape."""
    need_queue(tree, queue, "queue")
    need(fit_path(tree, queue, ranks), "ranks")


def led_way(plan, queue, ranks):
    """What way_of tells, the parameters being as stated."""
    places = owner_places(plan, queue)
    return (plan.images[queue], tuple([() if place == ABOVE else ranks[place] for place in places]))


def owner_places(plan, queue):
    """For each node of the image's path, the place of its owner in the path of queue, or -1 for the owner -1."""
    path = plan.tree.paths[queue]
    owners = [plan.owners[node] for node in plan.board.paths[plan.images[queue]]]
    return [ABOVE if owner == ABOVE else path.index(owner) for owner in owners]
