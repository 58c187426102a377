"""Keepers that keep the order of the plain shape as long as they can."""

from nextbough.checks import is_numbers, need
from nextbough.errors import NoGap
from nextbough.insertings import ranks_at
from nextbough.keepings import keepings_at
from nextbough.playing import packet_gone
from nextbough.shapekinds import need_plain, need_shape
from nextbough.standings import Standing, need_absent
from nextbough.ways import need_way

KINDS = ("any", "own", "new", "old")
MIMIC_GAP = 1 << 60


class Mimic:
    """A keeper of the chip for plain; held and chip_held are the standings of both.

    visits has for each queue of the chip, as the keys of a dict, the queues of plain of which it
    ever pushed a packet there.
    """

    def __init__(self, plain, chip, kind, choices):
        need_plain(plain, "plain")
        need_shape(chip, "chip")
        need(isinstance(kind, str) and kind in KINDS, "kind")
        need(isinstance(choices, tuple) and len(choices) > 0, "choices")
        need(is_numbers(choices, len(choices), None), "choices")
        self.held = Standing(plain)
        self.chip_held = Standing(chip)
        self.kind = kind
        self.choices = choices
        self.visits = [{} for _ in self.chip_held.tree.leaves]

    def push(self, number, queue, ranks):
        """Pushes the packet on the chip, and returns the way of the push there."""
        need_absent(self.held, number)
        need_absent(self.chip_held, number)
        need_way(self.held.tree, queue, ranks)
        is_level = self.held.present() == self.chip_held.present()
        self.held.push(number, queue, ranks)
        ways = self._kept_ways(number) if is_level else []
        fits = [way for way in ways if self._is_chosen(way[0], queue)]
        if fits:
            ways = fits
        way = self._last_way()
        if ways:
            choice = self.choices[number % len(self.choices)]
            way = ways[choice % len(ways)]
        self.chip_held.push(number, way[0], way[1])
        self.visits[way[0]][queue] = True
        return way

    def _kept_ways(self, number):
        """The ways by which the chip gets the order of plain."""
        ways = []
        for queue, places in keepings_at(self.chip_held, 0, number, list(self.held.order())):
            ranks = ranks_between(self.chip_held, queue, places)
            if ranks is not None:
                ways.append((queue, ranks))
        return ways

    def _is_chosen(self, seat, queue):
        """Whether the kind keeps the chip queue for a packet of the queue of plain."""
        visits = self.visits[seat]
        if self.kind == "own":
            return len(visits) == 0 or list(visits) == [queue]
        if self.kind == "new":
            return len(visits) == 0
        return self.kind == "any" or queue in visits

    def _last_way(self):
        """The way to queue 0 behind all entries of each line."""
        places = [len(self.chip_held.lines[node]) for node in self.chip_held.tree.paths[0]]
        return (0, ranks_at(self.chip_held, 0, tuple(places), MIMIC_GAP))

    def depart(self):
        """Lets both depart; the packet of the chip, or None."""
        self.held.depart()
        return packet_gone(self.chip_held)

    def chip_standing(self):
        """The standing of the chip."""
        return self.chip_held.twin()


def ranks_between(standing, queue, places):
    """The ranks for the places, or None where no integer is between two ranks."""
    try:
        return ranks_at(standing, queue, places, MIMIC_GAP)
    except NoGap:
        return None
