"""Lines that are kept in lanes, and policies at work on them."""

from nextbough.chiplines import plain_way
from nextbough.checks import is_number, is_numbers, need
from nextbough.courses import Course, arrive_on, depart_from
from nextbough.factkinds import is_facts
from nextbough.policies import need_policy
from nextbough.rankkinds import is_rank
from nextbough.ranksets import lane_ranks
from nextbough.routetables import need_plan_beside
from nextbough.runners import keeps_told
from nextbough.standings import standing_with
from nextbough.ways import led_way


class LaneLine:
    """A line in lanes, one for each of ranks; places has the number of the lane of each rank."""

    def __init__(self, ranks):
        need(are_ascending_ranks(ranks), "ranks")
        self.ranks = ranks
        self.places = {rank: place for place, rank in enumerate(ranks)}
        self.lanes = [[] for _ in ranks]

    def put(self, rank, item):
        """Puts the item behind into the lane of the rank."""
        need(is_rank(rank) and rank in self.places, "rank")
        need(is_number(item), "item")
        self.lanes[self.places[rank]].append(item)

    def take(self):
        """Takes the first item of the first lane that is not empty; its entry, or None."""
        for rank, lane in zip(self.ranks, self.lanes):
            if lane:
                return (rank, lane.pop(0))
        return None

    def lanes_now(self):
        """The items of each lane."""
        return tuple([tuple(lane) for lane in self.lanes])

    def entries(self):
        """The entries of the line, in sequence."""
        return [(rank, item) for rank, lane in zip(self.ranks, self.lanes) for item in lane]


def are_ascending_ranks(thing):
    """Whether thing is an ascending tuple of ranks."""
    if not isinstance(thing, tuple) or not all([is_rank(rank) for rank in thing]):
        return False
    return list(thing) == sorted(set(thing))


class LaneLines:
    """The lines of the plan's plain shape on its chip, each in lanes of these ranks, by node of the chip."""

    def __init__(self, plan, ranks):
        self.plan = plan
        self.rows = [LaneLine(row) for row in ranks]

    def push(self, number, queue, ranks):
        """Pushes the packet on a way of the plain shape."""
        board = self.plan.board
        image, led = led_way(self.plan, queue, ranks)
        path = board.paths[image]
        items = [board.sides[node] for node in path[1:]] + [number]
        for node, rank, item in zip(path, led, items):
            self.rows[node].put(rank, item)

    def depart(self):
        """A departure: the packet, its queue and the ranks, as the plain shape has them, or None."""
        board = self.plan.board
        entry = self.rows[0].take()
        if entry is None:
            return None
        node = 0
        ranks = [entry[0]]
        while board.kids[node]:
            node = board.kids[node][entry[1]]
            entry = self.rows[node].take()
            ranks.append(entry[0])
        return (entry[1],) + plain_way(self.plan, board.lows[node], ranks)

    def standing(self):
        """The standing of the chip with these lines."""
        return standing_with(self.plan.board.form, [row.entries() for row in self.rows])


class LaneRunner:
    """A policy at work on the plan's chip, whose lines are kept in so many lanes each."""

    def __init__(self, policy, plan, lanes):
        need_policy(policy, "policy")
        need_plan_beside(policy, plan)
        ranks = lane_ranks(policy, plan)
        need(is_numbers(lanes, len(ranks), None), "lanes")
        need(all([row is not None and len(row) <= many for row, many in zip(ranks, lanes)]), "lanes")
        self.course = Course(policy)
        # Lanes beyond those of the ranks that can come stay empty.
        self.lines = LaneLines(plan, ranks)

    def arrive(self, facts):
        """A packet arrives: its number; TooGreat if it is refused."""
        need(is_facts(facts), "facts")
        return arrive_on(self.course, self.lines, facts)

    def depart(self):
        """A departure: the packet, or None."""
        return depart_from(self.course, self.lines)

    def order(self):
        """The order of the standing."""
        return self.lines.standing().order()

    def keeps_now(self):
        """The keeps with their worths now, as in parts."""
        return keeps_told(self.course.policy, self.course.keeps)

    def taken(self):
        """How many packets were taken."""
        return self.course.many

    def chip_standing(self):
        """The standing of the chip."""
        return self.lines.standing()
