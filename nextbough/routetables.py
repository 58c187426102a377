"""The routes of a policy on a chip."""

from nextbough.checks import need
from nextbough.plans import need_plan
from nextbough.policies import need_policy
from nextbough.ways import owner_places


def route_table(policy, plan):
    """For each route the image of its queue, and the places of the owners of the image's path."""
    need_policy(policy, "policy")
    need_plan_beside(policy, plan)
    return tuple([(plan.images[queue], tuple(owner_places(plan, queue))) for _, queue, _ in policy.given[3]])


def need_plan_beside(policy, plan):
    """Refuses plan unless it is a Plan of the policy's shape."""
    need_plan(plan, "plan")
    need(plan.tree.form == policy.tree.form, "plan")
