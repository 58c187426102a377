"""Melts: policies with fewer nodes that take, refuse and let depart the same."""

from nextbough.checks import is_number, need
from nextbough.codes import code_of
from nextbough.cutting import contracted, replaced_bough
from nextbough.errors import NotMeltable
from nextbough.exprtrees import nodes_in
from nextbough.policies import Policy, need_policy
from nextbough.putins import put_in, unread_lets
from nextbough.rankkinds import MOST_INTEGERS
from nextbough.shapekinds import MOST_CHILDREN

KINDS = ("same", "strict", "into")


def can_melt(policy, kind, node):
    """Whether the melt of this kind can be done at node."""
    need_melt(policy, kind, node)
    return melt_parts(policy, kind, node) is not None


def melted(policy, kind, node):
    """The policy behind the melt of this kind at node."""
    need_melt(policy, kind, node)
    parts = melt_parts(policy, kind, node)
    if parts is None:
        raise NotMeltable(kind, node)
    return Policy(parts)


def need_melt(policy, kind, node):
    """Refuses the parameters unless they are a policy, a kind and a number."""
    need_policy(policy, "policy")
    need(is_kind(kind), "kind")
    need(is_number(node), "node")


def is_kind(thing):
    """Whether thing is a kind of melts."""
    return isinstance(thing, str) and thing in KINDS


def melt_parts(policy, kind, node):
    """The parts of the policy behind the melt, or None if it cannot be done."""
    tree = policy.tree
    if node >= len(tree.kids) or not tree.kids[node]:
        return None
    if kind == "into":
        return into_parts(policy, node)
    if node == 0 or not routes_through(policy, node):
        return None
    if len(tree.kids[tree.parents[node]]) - 1 + len(tree.kids[node]) > MOST_CHILDREN:
        return None
    return same_parts(policy, node) if kind == "same" else strict_parts(policy, node)


def same_parts(policy, node):
    """The parts behind the melt "same" of a fork that may lose its place to its children, or None."""
    depth = policy.tree.depths[node]
    if outs_at(policy, node):
        return None
    for route in routes_through(policy, node):
        if not echoes(policy, route[2][depth], route[2][depth - 1]):
            return None
    routes = []
    for number, queue, sections in policy.given[3]:
        if is_through(policy, queue, node):
            sections = sections[:depth] + sections[depth + 1:]
        routes.append((number, queue, sections))
    return contracted_parts(policy, node, routes, ())


def strict_parts(policy, node):
    """The parts behind the melt "strict" of a fork that may lose its place to its children, or None."""
    depth = policy.tree.depths[node]
    row = strict_row(policy, node)
    if row is None:
        return None
    routes = []
    for number, queue, sections in policy.given[3]:
        if is_through(policy, queue, node):
            sections = sections[:depth - 1] + (with_ahead(sections[depth], row),) + sections[depth + 1:]
        routes.append((number, queue, sections))
    return contracted_parts(policy, node, routes, integers_of(row))


def strict_row(policy, node):
    """The bare row that all routes through the fork have at its parent, or None if the fork cannot melt so."""
    top = policy.tree.parents[node]
    depth = policy.tree.depths[top]
    row = row_of(routes_through(policy, node)[0][2][depth])
    for _, queue, sections in routes_through(policy, top):
        section = sections[depth]
        if is_through(policy, queue, node):
            if not is_bare(section) or row_of(section) != row:
                return None
        elif not are_parted(row_of(section), row):
            return None
    if is_begun(policy, top, row) or len(row) + longest_at(policy, node) > MOST_INTEGERS:
        return None
    return row


def contracted_parts(policy, node, routes, ahead):
    """The parts with these routes, in which the children of node stand in its place.

    The outs of node stand at its parent, with these integers ahead of their prefixes.
    """
    form, names, keeps, _, outs = policy.given
    moved = []
    for place, origin, prefix, steps in outs:
        if place == node:
            moved.append((policy.tree.parents[node], origin, ahead + prefix, steps))
        else:
            moved.append((place - 1 if place > node else place, origin, prefix, steps))
    left = names[:node] + names[node + 1:]
    return (contracted(form, node), left, keeps, tuple(routes), sorted_outs(moved))


def sorted_outs(outs):
    """The outs by node; those of one node keep their sequence."""
    return tuple(sorted(outs, key=lambda out: out[0]))


def into_parts(policy, node):
    """The parts behind the melt of the fork into a queue, or None."""
    kids = policy.tree.kids[node]
    if any([len(policy.tree.kids[kid]) > 0 for kid in kids]):
        return None
    rows = rows_by_kid(policy, node)
    if rows is not None:
        return into_ahead(policy, node, rows)
    depth = policy.tree.depths[node]
    for kid in kids:
        if outs_at(policy, kid):
            return None
    for route in routes_through(policy, node):
        if not echoes(policy, route[2][depth + 1], route[2][depth]):
            return None
    changed = {route[0]: route[2][:depth + 1] for route in routes_through(policy, node)}
    return queue_parts(policy, node, changed, policy.given[4])


def rows_by_kid(policy, node):
    """For each child of the fork with a route the bare row at the fork that parts it from the others.

    None if the fork cannot melt by such rows.
    """
    tree = policy.tree
    rows = {}
    for _, queue, sections in routes_through(policy, node):
        section = sections[tree.depths[node]]
        kid = tree.leaves[queue]
        if not is_bare(section) or rows.setdefault(kid, row_of(section)) != row_of(section):
            return None
    for kid, row in rows.items():
        if is_begun(policy, node, row) or len(row) + longest_at(policy, kid) > MOST_INTEGERS:
            return None
        for other, beside in rows.items():
            if other != kid and not are_parted(row, beside):
                return None
    return rows


def into_ahead(policy, node, rows):
    """The parts behind the melt of the fork into a queue by such rows of its children."""
    tree = policy.tree
    depth = tree.depths[node]
    changed = {}
    for number, queue, sections in routes_through(policy, node):
        row = rows[tree.leaves[queue]]
        changed[number] = sections[:depth] + (with_ahead(sections[depth + 1], row),)
    outs = []
    for place, origin, prefix, steps in policy.given[4]:
        if place in rows:
            outs.append((node, origin, integers_of(rows[place]) + prefix, steps))
        elif place not in tree.kids[node]:
            outs.append((place, origin, prefix, steps))
    return queue_parts(policy, node, changed, outs)


def queue_parts(policy, node, changed, outs):
    """The parts in which the fork of queues is a queue; changed has the new sections of each class through it."""
    tree = policy.tree
    form, names, keeps, rows, _ = policy.given
    low = tree.lows[node]
    gone = len(tree.kids[node])
    routes = []
    for number, queue, sections in rows:
        if number in changed:
            routes.append((number, low, changed[number]))
        else:
            routes.append((number, queue - gone + 1 if queue > low else queue, sections))
    moved = []
    for place, origin, prefix, steps in outs:
        moved.append((place - gone if place > node else place, origin, prefix, steps))
    left = names[:node + 1] + names[tree.ends[node]:]
    return (replaced_bough(form, node, ()), left, keeps, tuple(routes), sorted_outs(moved))


def is_through(policy, queue, node):
    """Whether node is on the path of queue."""
    return policy.tree.lows[node] <= queue < policy.tree.highs[node]


def routes_through(policy, node):
    """The routes whose queue's path has the node."""
    return [route for route in policy.given[3] if is_through(policy, route[1], node)]


def outs_at(policy, node):
    """The outs that stand at the node."""
    return [out for out in policy.given[4] if out[0] == node]


def row_of(section):
    """The expressions of the section's rank."""
    return section[1][-1][1]


def is_bare(section):
    """Whether the section is a rank of integers alone."""
    return len(section[1]) == 1 and all([tree[0] == "int" for tree in row_of(section)])


def integers_of(row):
    """The integers of a bare row."""
    return tuple([tree[1] for tree in row])


def are_parted(one, other):
    """Whether the rows have different integers at some place, and ahead of it the same ones."""
    for left, right in zip(one, other):
        if left[0] != "int" or right[0] != "int":
            return False
        if left[1] != right[1]:
            return True
    return False


def is_begun(policy, node, row):
    """Whether the prefix of an out at the node begins with the integers of the row."""
    start = integers_of(row)
    return any([out[2][:len(start)] == start for out in outs_at(policy, node)])


def longest_at(policy, node):
    """How many elements the longest row or prefix at the node, which has a route, has."""
    depth = policy.tree.depths[node]
    rows = [len(row_of(route[2][depth])) for route in routes_through(policy, node)]
    return max(rows + [len(out[2]) for out in outs_at(policy, node)])


def with_ahead(section, row):
    """The section with this row ahead of its own."""
    origin, steps = section
    return (origin, steps[:-1] + (("rank", row + steps[-1][1]),))


def echoes(policy, section, other):
    """Whether the section tells what the other one tells, and nothing else comes up in it."""
    origin, steps = section
    for name, pairs in policy.given[2]:
        if name == origin and pairs:
            return False
    here = put_in(steps)
    there = put_in(other[1])
    if here is None or there is None or len(unread_lets(steps)) > 0:
        return False
    return [codes_of(tree) for tree in here] == [codes_of(tree) for tree in there]


def codes_of(tree):
    """The rows of code of an expression: they tell the tree, and are not nested as deep as it may be."""
    return [code_of(part) for part in nodes_in(tree)]
