"""Policies at work on chips."""

from nextbough.checks import need
from nextbough.chiplines import ChipLines
from nextbough.courses import Course, arrive_on, depart_from
from nextbough.factkinds import is_facts
from nextbough.policies import need_policy
from nextbough.reading import read_back_by
from nextbough.routetables import need_plan_beside
from nextbough.runners import keeps_told


class ChipRunner:
    """A policy at work on the plan's chip."""

    def __init__(self, policy, plan):
        need_policy(policy, "policy")
        need_plan_beside(policy, plan)
        self.course = Course(policy)
        self.lines = ChipLines(plan)

    def arrive(self, facts):
        """A packet arrives: its number; TooGreat if it is refused."""
        need(is_facts(facts), "facts")
        return arrive_on(self.course, self.lines, facts)

    def depart(self):
        """A departure: the packet, or None."""
        return depart_from(self.course, self.lines)

    def order(self):
        """The order of the standing."""
        return self.lines.held.order()

    def keeps_now(self):
        """The keeps with their worths now, as in parts."""
        return keeps_told(self.course.policy, self.course.keeps)

    def taken(self):
        """How many packets were taken."""
        return self.course.many

    def chip_standing(self):
        """The standing of the chip."""
        return self.lines.held.twin()

    def read_back(self):
        """The standing of the policy's shape that is read from the chip."""
        return read_back_by(self.lines.plan, self.lines.held)
