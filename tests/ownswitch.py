"""A switch by the words of [8], [10] and [82] to [87]: lists of entries at the operator's forks, a policy at each place."""

import math

from nextbough.composites import composite_shape
from nextbough.leaning import lean_policy
from nextbough.operators import read_operator
from nextbough.packing import can_lay
from nextbough.policytexts import read_policy
from support import Nodes, Words


def parts_of(text, lean):
    policy = read_policy(text)
    return (lean_policy(policy)[0] if lean else policy).parts()


class OwnSwitch:
    """What it tells of refusals are tuples of the name and the fields of the error."""

    def __init__(self, chip, text, room):
        self.chip, self.text, self.room = chip, text, room
        self.places, self.kinds, tree = read_operator(text)
        self.nodes = Nodes(tree)
        self.forks = self.nodes.forks()
        self.lines = {fork: [] for fork in self.forks}
        self.keeps = {fork: [0] * 7 for fork in self.forks}
        self.tenants = {}
        self.numbers = {}
        self.many = 0
        self.done = []

    def do(self, deed):
        """What the deed tells; it is noted as the document says."""
        told = getattr(self, deed[0])(*deed[1:])
        is_error = isinstance(told, tuple) and told[0] in ("Taken", "Vacant", "Busy", "FullRoom", "TooLittle", "NoLaying", "TooGreat") and (
            deed[0] != "depart")
        if not is_error or told[0] in ("FullRoom", "TooGreat"):
            self.done.append((deed, told))
        return told

    def shapes(self, **changed):
        held = {place: tenant["words"].parts[0] for place, tenant in self.tenants.items()}
        held.update(changed)
        return tuple(held.get(place) for place in self.places)

    def fits(self, chip=None, **changed):
        return can_lay(composite_shape(self.text, self.shapes(**changed)), chip or self.chip)

    def mount(self, place, text, room, lean):
        if place in self.tenants:
            return ("Taken", place)
        left = self.room - sum(tenant["room"] for tenant in self.tenants.values())
        if room > left:
            return ("TooLittle", left)
        parts = parts_of(text, lean)
        if not self.fits(**{place: parts[0]}):
            return ("NoLaying",)
        self.tenants[place] = {"words": Words(parts), "room": room, "lean": lean, "refused": 0, "departed": 0}
        return None

    def unmount(self, place):
        if place not in self.tenants:
            return ("Vacant", place)
        if self.tenants[place]["words"].held.present():
            return ("Busy", place)
        del self.tenants[place]
        return None

    def exchange(self, place, text):
        if place not in self.tenants:
            return ("Vacant", place)
        tenant = self.tenants[place]
        parts = parts_of(text, tenant["lean"])
        if not self.fits(**{place: parts[0]}):
            return ("NoLaying",)
        old, new = tenant["words"], Words(parts)
        routes = {route[0]: route[1] for route in parts[3]}
        for own in old.held.order():
            queue = routes.get(old.facts[own][0], routes["*"])
            new.held.push(own, queue, ((),) * len(new.nodes.path(queue)))
        new.facts, new.many = old.facts, old.many
        tenant["words"] = new
        return None

    def move_to(self, chip):
        if not self.fits(chip):
            return ("NoLaying",)
        self.chip = chip
        return None

    def way(self, place):
        """The forks above the place, each with the number of the child toward it."""
        path = self.nodes.path(self.places.index(place))
        return [(fork, self.nodes.kids[fork].index(below)) for fork, below in zip(path, path[1:])]

    def arrive(self, place, facts):
        if place not in self.tenants:
            return ("Vacant", place)
        tenant = self.tenants[place]
        if len(tenant["words"].held.present()) >= tenant["room"]:
            tenant["refused"] += 1
            return ("FullRoom", place)
        own = tenant["words"].arrive(facts)
        if isinstance(own, tuple):
            tenant["refused"] += 1
            return ("TooGreat", f"{place}-{own[1]}")
        for fork, child in self.way(place):
            word, weights = self.kinds[self.forks.index(fork)]
            rank = {"come": self.many, "due": facts[2], "small": facts[1], "strict": child}.get(word)
            if word == "turns":
                keeps = self.keeps[fork]
                rank = max(keeps[6], keeps[child])
                keeps[child] = rank + math.lcm(*weights) // weights[child]
            self.lines[fork].append((rank, child))
            # Python keeps the sequence of equal ranks.
            self.lines[fork].sort(key=lambda entry: entry[0])
        self.numbers[(place, own)] = self.many
        self.many += 1
        return self.many - 1

    def depart(self):
        node = 0
        if not self.numbers:
            return None
        while self.nodes.kids[node]:
            rank, child = self.lines[node].pop(0)
            if self.kinds[self.forks.index(node)][0] == "turns":
                self.keeps[node][6] = rank
            node = self.nodes.kids[node][child]
        place = self.places[self.nodes.leaves.index(node)]
        own = self.tenants[place]["words"].depart()
        self.tenants[place]["departed"] += 1
        return (place, self.numbers.pop((place, own)))

    def order(self, node=0):
        """The order of a node of the operator."""
        if not self.nodes.kids[node]:
            place = self.places[self.nodes.leaves.index(node)]
            held = self.tenants[place]["words"].held.order() if place in self.tenants else ()
            return [(place, self.numbers[(place, own)]) for own in held]
        orders = [self.order(kid) for kid in self.nodes.kids[node]]
        return [orders[child].pop(0) for _, child in self.lines[node]]

    def counts_of(self, place):
        tenant = self.tenants[place]
        return (tenant["words"].many, tenant["refused"], tenant["departed"])

    def keeps_of(self, place):
        return self.tenants[place]["words"].keeps_now()

    def composite_lines(self):
        """The lines of the composite's nodes, in sequence."""
        found = []
        for node, kids in enumerate(self.nodes.kids):
            if kids:
                found.append(tuple(((rank,), child) for rank, child in self.lines[node]))
                continue
            place = self.places[self.nodes.leaves.index(node)]
            if place not in self.tenants:
                found.append(())
                continue
            words = self.tenants[place]["words"]
            for at, line in enumerate(words.held.all_lines()):
                if at in words.nodes.leaves:
                    line = tuple((rank, self.numbers[(place, own)]) for rank, own in line)
                found.append(line)
        return tuple(found)

    def composite(self):
        return composite_shape(self.text, self.shapes())

