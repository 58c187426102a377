"""Keepers that answer by a plan."""

from nextbough.checks import need
from nextbough.plans import need_plan
from nextbough.playing import packet_gone, play_events
from nextbough.rankkinds import are_events
from nextbough.reading import read_back_by
from nextbough.standings import Standing, need_absent
from nextbough.ways import led_way, need_way


class PlanKeeper:
    """The keeper that answers by the plan; held is the standing of its chip."""

    def __init__(self, plan):
        need_plan(plan, "plan")
        self.plan = plan
        self.held = Standing(plan.board.form)

    def push(self, number, queue, ranks):
        """Pushes the packet on the chip, and returns the way of the push there."""
        need_absent(self.held, number)
        need_way(self.plan.tree, queue, ranks)
        way = led_way(self.plan, queue, ranks)
        self.held.push(number, way[0], way[1])
        return way

    def depart(self):
        """Lets the chip depart: the packet, or None."""
        return packet_gone(self.held)

    def chip_standing(self):
        """The standing of the chip."""
        return self.held.twin()

    def plain_standing(self):
        """The standing of the plain shape that is read from the chip."""
        return read_back_by(self.plan, self.held)


def twin_run(plan, events):
    """What departs in the events from the plain shape, and what from a keeper by the plan."""
    need_plan(plan, "plan")
    need(are_events(plan.tree, events), "events")
    keeper = PlanKeeper(plan)
    gone = []
    for event in events:
        if event[0] == "push":
            keeper.push(event[1], event[2], event[3])
        else:
            gone.append(keeper.depart())
    return (play_events(plan.tree.form, events)[0], tuple(gone))
