"""Which ranks can come at the nodes of a policy, and how many lanes they need on a chip."""

from nextbough.exprtrees import DIVIDING, PARTS, nodes_in
from nextbough.factkinds import is_worth
from nextbough.plans import ABOVE
from nextbough.policies import need_policy
from nextbough.putins import put_in
from nextbough.routetables import need_plan_beside
from nextbough.worths import joined_value

# More values, or ranks, than these are not told.
MOST_VALUES = 64


def rank_sets(policy):
    """For each node all ranks that its sections give, or None."""
    need_policy(policy, "policy")
    tree = policy.tree
    sections = [[] for _ in tree.kids]
    for _, queue, row in policy.given[3]:
        for node, section in zip(tree.paths[queue], row):
            sections[node].append(section[1])
    return tuple([ranks_of(held) for held in sections])


def node_lanes(policy, plan):
    """For each node of the chip how many lanes its line needs, or None."""
    need_policy(policy, "policy")
    need_plan_beside(policy, plan)
    return tuple([None if ranks is None else len(ranks) for ranks in lane_ranks(policy, plan)])


def lane_ranks(policy, plan):
    """For each node of the chip the ranks that can come there, or None."""
    sections = [[] for _ in plan.board.kids]
    for _, queue, row in policy.given[3]:
        path = policy.tree.paths[queue]
        for node in plan.board.paths[plan.images[queue]]:
            if plan.owners[node] != ABOVE:
                sections[node].append(row[path.index(plan.owners[node])][1])
    return [((),) if plan.owners[node] == ABOVE else ranks_of(held) for node, held in enumerate(sections)]


def ranks_of(sections):
    """All ranks that these sections, lists of steps, give, ascending; None if one gives None, or they are many."""
    found = []
    for steps in sections:
        ranks = section_ranks(steps)
        if ranks is None:
            return None
        found.extend(ranks)
    return few(found)


def few(things):
    """The things, ascending, without duplicates; None if they are too many."""
    left = tuple(sorted(set(things)))
    return left if len(left) <= MOST_VALUES else None


def section_ranks(steps):
    """All ranks of values of the row of the section, or None."""
    trees = put_in(steps)
    if trees is None:
        return None
    sets = [values_of(tree) for tree in trees]
    if None in sets:
        return None
    many = 1
    for values in sets:
        many = many * len(values)
    if many > MOST_VALUES:
        return None
    ranks = [()]
    for values in sets:
        ranks = [rank + (value,) for rank in ranks for value in values]
    return ranks


def values_of(tree):
    """The values of an expression in which all lets are put in, ascending, or None."""
    stack = []
    for part in nodes_in(tree):
        many = PARTS.get(part[0], 0)
        taken = stack[len(stack) - many:]
        del stack[len(stack) - many:]
        stack.append(values_behind(part, taken))
    return stack[0]


def values_behind(part, sets):
    """The values of an expression by those of the expressions right in it."""
    word = part[0]
    if word == "int":
        return (part[1],)
    if word == "name":
        return None
    if word in DIVIDING:
        return divided_values(word, sets[0], part[2])
    if word == "if":
        return None if None in sets[1:] else few(sets[1] + sets[2])
    if None in sets:
        return (0, 1) if word in ("less", "same") else None
    return worths_among([joined_value(word, [one, other]) for one in sets[0] for other in sets[1]])


def divided_values(word, values, divisor):
    """The values of a part or rest by those of what is divided."""
    if values is not None:
        return worths_among([joined_value(word, [value, divisor]) for value in values])
    if word == "part" or divisor > MOST_VALUES:
        return None
    return tuple(range(divisor))


def worths_among(values):
    """Those of the values that are worths, ascending, or None."""
    return few([value for value in values if is_worth(value)])
