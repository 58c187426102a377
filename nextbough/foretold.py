"""Keepers that are told all events beforehand."""

from nextbough.checks import alike, need
from nextbough.playing import packet_gone, play_events
from nextbough.rankkinds import are_events
from nextbough.shapekinds import need_shape
from nextbough.standings import Standing
from nextbough.trees import plain_tree


class Foretold:
    """A keeper of the chip that knows the events of plain; pushes are those that still come."""

    def __init__(self, plain, chip, events):
        tree = plain_tree(plain, "plain")
        need_shape(chip, "chip")
        need(are_events(tree, events), "events")
        self.pushes = [event[1:] for event in events if event[0] == "push"]
        self.places = departure_places(plain, events, self.pushes)
        self.held = Standing(chip)

    def push(self, number, queue, ranks):
        """Pushes the packet at queue 0 of the chip, and returns the way of the push."""
        need(len(self.pushes) > 0 and alike((number, queue, ranks), self.pushes[0]), "number")
        self.pushes.pop(0)
        forks = len(self.held.tree.paths[0]) - 1
        led = ((),) * forks + ((self.places[number],),)
        self.held.push(number, 0, led)
        return (0, led)

    def depart(self):
        """Lets the chip depart: the packet, or None."""
        return packet_gone(self.held)


def departure_places(plain, events, pushes):
    """For each packet its place among those that depart in the events; those that never do follow, as they come."""
    places = {}
    for number in play_events(plain, events)[0]:
        if number is not None:
            places[number] = len(places)
    for push in pushes:
        if push[0] not in places:
            places[push[0]] = len(places)
    return places
