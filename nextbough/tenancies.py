"""Tenants in the places of an operator, whatever carries the lines of their composite."""

from nextbough.boughparts import grafted
from nextbough.composites import nodes_of_places
from nextbough.courses import Course
from nextbough.errors import Busy, FullRoom, Taken, TooGreat, TooLittle, Vacant
from nextbough.exchanging import exchanged
from nextbough.operatorforks import OperatorForks
from nextbough.orders import order_of
from nextbough.policies import route_in
from nextbough.shapekinds import many_queues
from nextbough.tenants import tenant_policy


class Tenant:
    """Who has a place; course is its policy at work, room is for how many packets."""

    def __init__(self, text, room, lean):
        self.text = text
        self.room = room
        self.lean = lean
        self.course = Course(tenant_policy(text, lean))
        self.refused = 0
        self.departed = 0


class Tenancy:
    """The tenants of an operator, what read_operator tells of one, at work.

    tenants are by place; packets has for each present packet its place and its number there; many
    is how many packets were taken; lines are those of the composite.
    """

    def __init__(self, operator, room, lines):
        self.places = operator[0]
        self.form = operator[2]
        self.forks = OperatorForks(operator[1], operator[2])
        self.room = room
        self.lines = lines
        self.tenants = {}
        self.packets = {}
        self.many = 0

    def mount(self, place, text, room, lean):
        """Gives the place a tenant."""
        if place in self.tenants:
            raise Taken(place)
        left = self.room - sum([tenant.room for tenant in self.tenants.values()])
        if room > left:
            raise TooLittle(left)
        tenant = Tenant(text, room, lean)
        self._graft(place, tenant.course.policy.tree.form)
        self.tenants[place] = tenant

    def unmount(self, place):
        """Takes the tenant of the place away."""
        if self.tenant_at(place).course.facts:
            raise Busy(place)
        self._graft(place, ())
        del self.tenants[place]

    def exchange(self, place, text):
        """Gives the tenant of the place another policy; its packets are led on."""
        tenant = self.tenant_at(place)
        policy = tenant_policy(text, tenant.lean)
        standing = self.lines.composite()
        node = self._node_of(place)
        classes = [tenant.course.facts[self.packets[number][1]][0] for number in order_of(standing, node)]
        queues = tuple([route_in(policy, number)[0] for number in classes])
        self.lines.lay(exchanged(standing, node, policy.tree.form, queues), self.lines.chip)
        tenant.text = text
        tenant.course.go_on_by(policy)

    def move_to(self, chip):
        """Moves all to the chip."""
        self.lines.lay(self.lines.composite(), chip)

    def arrive(self, place, facts):
        """A packet arrives at the place; its number."""
        tenant = self.tenant_at(place)
        if len(tenant.course.facts) >= tenant.room:
            tenant.refused += 1
            raise FullRoom(place)
        try:
            own, queue, ranks = tenant.course.admit(facts)
        except TooGreat as e:
            tenant.refused += 1
            raise TooGreat(f"{place}-{e.name}") from None
        number = self.many
        above = self.forks.admit(self.places.index(place), number, facts)
        self.lines.push(number, self._low_of(place) + queue, above + ranks)
        self.packets[number] = (place, own)
        self.many = number + 1
        return number

    def depart(self):
        """A departure: the place and the number of the packet, or None."""
        gone = self.lines.depart()
        if gone is None:
            return None
        number, queue, ranks = gone
        place, own = self.packets.pop(number)
        at = self.places.index(place)
        self.forks.dismiss(at, ranks)
        tenant = self.tenants[place]
        depth = len(self.forks.ways[at])
        tenant.course.dismiss(own, queue - self._low_of(place), ranks[depth:])
        tenant.departed += 1
        return (place, number)

    def tenant_at(self, place):
        """The tenant of the place; Vacant if there is none."""
        if place not in self.tenants:
            raise Vacant(place)
        return self.tenants[place]

    def shapes(self):
        """For each place the shape of its tenant, or None."""
        held = [self.tenants.get(place) for place in self.places]
        return tuple([None if tenant is None else tenant.course.policy.tree.form for tenant in held])

    def _node_of(self, place):
        """The node of the composite where the shape of the place begins."""
        return nodes_of_places(self.form, self.shapes())[self.places.index(place)]

    def _low_of(self, place):
        """The least queue of the composite that is one of the place."""
        before = self.shapes()[:self.places.index(place)]
        return sum([1 if shape is None else many_queues(shape) for shape in before])

    def _graft(self, place, form):
        """Puts the shape into the place, in which no packet lies."""
        standing = grafted(self.lines.composite(), self._node_of(place), form)
        self.lines.lay(standing, self.lines.chip)
