"""Policies at work."""

from nextbough.checks import need
from nextbough.errors import TooGreat
from nextbough.factkinds import is_facts
from nextbough.policies import need_policy, route_in
from nextbough.standings import Standing
from nextbough.workings import facts_table, worked_steps


class Runner:
    """A policy at work.

    held is its standing; keeps has for each origin a dict of its keeps; facts has those of each
    packet that is present; many is how many packets were taken.
    """

    def __init__(self, policy):
        need_policy(policy, "policy")
        self.policy = policy
        self.held = Standing(policy.tree.form)
        self.keeps = keeps_at_first(policy)
        self.facts = {}
        self.many = 0

    def arrive(self, facts):
        """A packet arrives: its number; TooGreat if it is refused."""
        need(is_facts(facts), "facts")
        number = self.many
        queue, sections = route_in(self.policy, facts[0])
        ranks = worked_sections(sections, self.keeps, facts, number)
        self.held.push(number, queue, ranks)
        self.facts[number] = facts
        self.many = number + 1
        return number

    def depart(self):
        """A departure: the packet, or None."""
        gone = self.held.depart()
        if gone is None:
            return None
        number, queue, ranks = gone
        work_outs(self.policy, self.keeps, (self.facts.pop(number), number), queue, ranks)
        return number

    def standing_of_now(self):
        """The standing."""
        return self.held.twin()

    def order(self):
        """The order of the standing."""
        return self.held.order()

    def keeps_now(self):
        """The keeps with their worths now, as in parts."""
        return keeps_told(self.policy, self.keeps)

    def taken(self):
        """How many packets were taken."""
        return self.many


def keeps_at_first(policy):
    """For each origin a dict of its keeps, as the parts of the policy tell them."""
    return {origin: {name: worth for name, worth in pairs} for origin, pairs in policy.given[2]}


def keeps_told(policy, keeps):
    """The keeps as in the parts of the policy, with the worths that they have."""
    return tuple([
        (origin, tuple([(name, keeps[origin][name]) for name, _ in pairs])) for origin, pairs in policy.given[2]
    ])


def worked_sections(sections, keeps, facts, number):
    """The ranks that the sections tell; the sets are done, unless the packet is refused with TooGreat."""
    ranks = []
    sets = []
    for origin, steps in sections:
        table = facts_table(facts, number)
        table.update(keeps[origin])
        worked = worked_steps(steps, table)
        if worked is None:
            raise TooGreat(origin)
        ranks.append(worked[0])
        sets.append((keeps[origin], worked[1]))
    for held, pairs in sets:
        for name, worth in pairs:
            held[name] = worth
    return tuple(ranks)


def work_outs(policy, keeps, packet, queue, ranks):
    """Works out the outs on the path of queue, from which these ranks were taken; packet is (facts, number)."""
    path = policy.tree.paths[queue]
    for node, origin, prefix, steps in policy.given[4]:
        if node not in path:
            continue
        rank = ranks[path.index(node)]
        if len(rank) > len(prefix) and rank[:len(prefix)] == prefix:
            table = facts_table(packet[0], packet[1])
            table["rank"] = rank[len(prefix)]
            table.update(keeps[origin])
            worked = worked_steps(steps, table)
            if worked is not None:
                for name, worth in worked[1]:
                    keeps[origin][name] = worth
