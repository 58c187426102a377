"""Policies, made of their parts."""

from nextbough.checks import PACKET_BOUND, is_below, need
from nextbough.factkinds import CLASS_BOUND, is_name, is_worth
from nextbough.rankkinds import is_rank
from nextbough.shapekinds import is_plain
from nextbough.stepkinds import are_named_well, are_steps
from nextbough.trees import ShapeTree


class Policy:
    """A policy; it never changes.

    tree is that of its shape; routes has for each class, and for "*", the pair (queue, sections).
    """

    def __init__(self, parts):
        need(are_parts(parts), "parts")
        self.given = parts
        self.tree = ShapeTree(parts[0])
        self.routes = {route[0]: route[1:] for route in parts[3]}

    def parts(self):
        """What the policy was made of."""
        return self.given

    def shape_of(self):
        """The shape."""
        return self.tree.form

    def names_of(self):
        """The names of the nodes."""
        return self.given[1]

    def route_for(self, number):
        """The queue and the sections for the class with this number."""
        need(is_below(number, PACKET_BOUND), "number")
        return route_in(self, number)


def route_in(policy, number):
    """What route_for tells, number being a number."""
    return policy.routes.get(number, policy.routes["*"])


def need_policy(policy, word):
    """Refuses the parameter called word unless it is a Policy."""
    need(isinstance(policy, Policy), word)


def are_parts(thing):
    """Whether a Policy can be made of thing."""
    if not isinstance(thing, tuple) or len(thing) != 5 or not is_plain(thing[0]):
        return False
    tree = ShapeTree(thing[0])
    if not are_names(thing[1], len(tree.kids)) or not are_keeps(thing[2]):
        return False
    table = {origin: {name: True for name, _ in pairs} for origin, pairs in thing[2]}
    # For each origin that was seen at a node, this node.
    stands = {}
    return are_routes(tree, thing[3], table, stands) and are_outs(tree, thing[4], table, stands)


def are_names(thing, many):
    """Whether thing is a tuple of that many names, no two alike."""
    if not isinstance(thing, tuple) or len(thing) != many:
        return False
    return all([is_name(name) for name in thing]) and len(set(thing)) == many


def are_pairs(thing):
    """Whether thing is a tuple of pairs that begin with names, no two alike."""
    if not isinstance(thing, tuple):
        return False
    for pair in thing:
        if not isinstance(pair, tuple) or len(pair) != 2:
            return False
    return are_names(tuple([pair[0] for pair in thing]), len(thing))


def are_keeps(thing):
    """Whether thing is origins with their keeps."""
    if not are_pairs(thing):
        return False
    for _, pairs in thing:
        if not are_pairs(pairs) or not all([is_worth(pair[1]) for pair in pairs]):
            return False
    return True


def are_routes(tree, thing, table, stands):
    """Whether thing is the routes, by the table of the keeps of each origin; adds to stands."""
    if not isinstance(thing, tuple) or len(thing) == 0:
        return False
    for route in thing:
        if not isinstance(route, tuple) or len(route) != 3 or not is_below(route[1], len(tree.leaves)):
            return False
        path = tree.paths[route[1]]
        if not isinstance(route[2], tuple) or len(route[2]) != len(path):
            return False
        for node, section in zip(path, route[2]):
            if not isinstance(section, tuple) or len(section) != 2:
                return False
            if not are_steps_at(node, section[0], section[1], False, table, stands):
                return False
    return are_classes([route[0] for route in thing])


def are_classes(row):
    """Whether the list is ascending numbers of classes, and then "*"."""
    last = -1
    for number in row[:-1]:
        if not is_below(number, CLASS_BOUND) or number <= last:
            return False
        last = number
    return isinstance(row[-1], str) and row[-1] == "*"


def are_outs(tree, thing, table, stands):
    """Whether thing is the outs, by the table of the keeps of each origin; adds to stands."""
    if not isinstance(thing, tuple):
        return False
    last = 0
    for out in thing:
        if not isinstance(out, tuple) or len(out) != 4:
            return False
        node, origin, prefix, steps = out
        if not is_below(node, len(tree.kids)) or node < last or not is_rank(prefix):
            return False
        if not are_steps_at(node, origin, steps, True, table, stands):
            return False
        last = node
    return True


def are_steps_at(node, origin, steps, is_out, table, stands):
    """Whether a section or an out at the node may have this origin and these steps."""
    if not isinstance(origin, str) or origin not in table:
        return False
    if stands.setdefault(origin, node) != node:
        return False
    return are_steps(steps, is_out) and are_named_well(steps, table[origin], is_out)
