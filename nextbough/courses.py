"""Policies at work, whatever carries their lines."""

from nextbough.policies import route_in
from nextbough.runners import keeps_at_first, work_outs, worked_sections


class Course:
    """A policy at work without its lines, which others carry.

    keeps has for each origin a dict of its keeps; facts has those of each packet that is present;
    many is how many packets were taken.
    """

    def __init__(self, policy):
        self.policy = policy
        self.keeps = keeps_at_first(policy)
        self.facts = {}
        self.many = 0

    def admit(self, facts):
        """The number, the queue and the ranks of a packet that arrives; TooGreat if it is refused."""
        number = self.many
        queue, sections = route_in(self.policy, facts[0])
        ranks = worked_sections(sections, self.keeps, facts, number)
        self.facts[number] = facts
        self.many = number + 1
        return (number, queue, ranks)

    def dismiss(self, number, queue, ranks):
        """Works out the outs when the packet departs from queue, these ranks being taken away."""
        work_outs(self.policy, self.keeps, (self.facts.pop(number), number), queue, ranks)

    def go_on_by(self, policy):
        """Goes on by another policy, with new keeps."""
        self.policy = policy
        self.keeps = keeps_at_first(policy)


def arrive_on(course, lines, facts):
    """A packet of the course arrives and is pushed on the lines; its number."""
    number, queue, ranks = course.admit(facts)
    lines.push(number, queue, ranks)
    return number


def depart_from(course, lines):
    """The packet of the course that departs from the lines, or None."""
    gone = lines.depart()
    if gone is None:
        return None
    number, queue, ranks = gone
    course.dismiss(number, queue, ranks)
    return number
