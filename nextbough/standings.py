"""Standings: the lines of a shape with the packets that lie in them."""

from nextbough.checks import PACKET_BOUND, is_below, need
from nextbough.entrylines import place_behind
from nextbough.rankkinds import fit_path
from nextbough.trees import need_node, need_queue, shape_tree


class Standing:
    """A standing of form, empty at first.

    lines has for each node the list of its entries; seats has the queue of each present packet.
    """

    def __init__(self, form):
        self.tree = shape_tree(form, "form")
        self.lines = [[] for _ in self.tree.kids]
        self.seats = {}

    def form_of(self):
        """The shape."""
        return self.tree.form

    def push(self, number, queue, ranks):
        """Pushes the packet on the way (queue, ranks)."""
        need_absent(self, number)
        need_queue(self.tree, queue, "queue")
        need(fit_path(self.tree, queue, ranks), "ranks")
        path = self.tree.paths[queue]
        items = [self.tree.sides[node] for node in path[1:]] + [number]
        for node, rank, item in zip(path, ranks, items):
            line = self.lines[node]
            line.insert(place_behind(line, rank), (rank, item))
        self.seats[number] = queue

    def depart(self):
        """A departure: the packet, its queue and the ranks taken away, or None."""
        if not self.seats:
            return None
        ranks = []
        node = 0
        while self.tree.kids[node]:
            rank, child = self.lines[node].pop(0)
            ranks.append(rank)
            node = self.tree.kids[node][child]
        rank, number = self.lines[node].pop(0)
        ranks.append(rank)
        queue = self.seats.pop(number)
        return (number, queue, tuple(ranks))

    def line_of(self, node):
        """The line of node."""
        need_node(self.tree, node, "node")
        return tuple(self.lines[node])

    def all_lines(self):
        """The lines of all nodes."""
        return tuple([tuple(line) for line in self.lines])

    def order(self):
        """The packets in the sequence in which they would depart."""
        return tuple(order_at(self.tree, self.lines, 0))

    def lies_at(self, number):
        """The queue at which the packet lies, or None."""
        need(is_below(number, PACKET_BOUND), "number")
        return self.seats.get(number)

    def present(self):
        """All present packets, ascending."""
        return tuple(sorted(self.seats.keys()))

    def many_present(self):
        """How many packets are present."""
        return len(self.seats)

    def twin(self):
        """A new standing of the same shape with the same lines."""
        return standing_with(self.tree.form, self.lines)

    def same_as(self, other):
        """Whether other has this shape and these lines."""
        need_standing(other, "other")
        return self.tree.form == other.tree.form and self.lines == other.lines


def need_standing(standing, word):
    """Refuses the parameter called word unless it is a Standing."""
    need(isinstance(standing, Standing), word)


def need_standing_of(standing, form, word):
    """Refuses the parameter called word unless it is a Standing of this shape."""
    need_standing(standing, word)
    need(standing.tree.form == form, word)


def is_present(standing, number):
    """Whether this is the number of a packet that is present."""
    return is_below(number, PACKET_BOUND) and number in standing.seats


def need_absent(standing, number):
    """Refuses number unless it is that of a packet that is not present."""
    need(is_below(number, PACKET_BOUND) and number not in standing.seats, "number")


def standing_with(form, lines):
    """The standing of form with these lines, which are known to be those of one."""
    made = Standing(form)
    made.lines = [list(line) for line in lines]
    for queue, node in enumerate(made.tree.leaves):
        for entry in made.lines[node]:
            made.seats[entry[1]] = queue
    return made


def order_at(tree, lines, node):
    """The list of the packets in the order of node."""
    kids = tree.kids[node]
    if not kids:
        return [entry[1] for entry in lines[node]]
    orders = [order_at(tree, lines, kid) for kid in kids]
    given = [0] * len(kids)
    order = []
    for entry in lines[node]:
        child = entry[1]
        order.append(orders[child][given[child]])
        given[child] += 1
    return order
