"""The switch: tenants in the places of an operator, on a chip."""

from nextbough.checks import is_number, need
from nextbough.composites import operator_told
from nextbough.compositelines import LaidLines
from nextbough.deeds import do_deed, need_arguments, need_place
from nextbough.errorparts import error_told
from nextbough.errors import FullRoom, TooGreat
from nextbough.runners import keeps_told
from nextbough.shapekinds import need_shape
from nextbough.tenancies import Tenancy
from nextbough.tenancystates import state_of


class Switch:
    """Tenants at work on a chip.

    made is what the switch was made of; done has the pairs of the deeds and of what they told.
    """

    def __init__(self, chip, text, room):
        need_shape(chip, "chip")
        operator = operator_told(text)
        need(is_number(room), "room")
        self.made = (chip, text, room)
        self.tenancy = Tenancy(operator, room, LaidLines(operator[2], chip))
        self.done = []

    def mount(self, place, text, room, lean):
        """Gives the place a tenant with this policy, and room for so many packets."""
        return self._perform(("mount", place, text, room, lean))

    def unmount(self, place):
        """Takes the tenant of the place away."""
        return self._perform(("unmount", place))

    def exchange(self, place, text):
        """Gives the tenant of the place another policy."""
        return self._perform(("exchange", place, text))

    def move_to(self, chip):
        """Changes the chip."""
        return self._perform(("move_to", chip))

    def arrive(self, place, facts):
        """A packet arrives at the place; its number."""
        return self._perform(("arrive", place, facts))

    def depart(self):
        """A departure: the place and the number of the packet, or None."""
        return self._perform(("depart",))

    def _perform(self, deed):
        """Does the deed, and notes what it told."""
        need_arguments(self.tenancy.places, deed)
        try:
            told = do_deed(self.tenancy, deed)
        except (FullRoom, TooGreat) as e:
            self.done.append((deed, error_told(e)))
            raise
        self.done.append((deed, told))
        return told

    def order(self):
        """The order, as pairs of a place and a number."""
        held = self.tenancy.lines.held
        return tuple([(self.tenancy.packets[number][0], number) for number in held.order()])

    def counts_of(self, place):
        """How many packets of the tenant were taken, refused and departed since its mount."""
        need_place(self.tenancy.places, place)
        tenant = self.tenancy.tenant_at(place)
        return (tenant.course.many, tenant.refused, tenant.departed)

    def keeps_of(self, place):
        """The keeps of the tenant with their worths now, as in parts."""
        need_place(self.tenancy.places, place)
        course = self.tenancy.tenant_at(place).course
        return keeps_told(course.policy, course.keeps)

    def images_now(self):
        """The images of the composite."""
        return self.tenancy.lines.plan.images

    def chip_standing(self):
        """The standing of the chip."""
        return self.tenancy.lines.held.twin()

    def read_back(self):
        """The standing of the composite that is read from the chip."""
        return self.tenancy.lines.composite()

    def deeds(self):
        """What was done, with what it told, in sequence."""
        return tuple(self.done)

    def snapshot(self):
        """A tuple from which the switch can be made anew."""
        return (self.made, state_of(self.tenancy), self.deeds())
