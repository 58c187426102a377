"""Lets put into the expressions that read them."""

from nextbough.checks import need
from nextbough.exprtrees import nodes_in, parts_of, size_of
from nextbough.stepkinds import are_some_steps, names_of_step

# More nodes than these are not put in.
MOST_NODES = 500


def put_in(steps):
    """The expressions of the rank with all lets put in, or None if they have too many nodes."""
    need(are_some_steps(steps, False), "steps")
    lets = {}
    for step in steps[:-1]:
        if step[0] == "let":
            lets[step[1]] = with_lets(step[2], lets)
    trees = [with_lets(tree, lets) for tree in steps[-1][1]]
    if None in trees or sum([size_of(tree) for tree in trees]) > MOST_NODES:
        return None
    return tuple(trees)


def with_lets(tree, lets):
    """The expression with the lets put in, or None if it gets too many nodes.

    lets are the expressions of the lets by name, lets put in in them, None for one with too many nodes.
    """
    size = 0
    for part in nodes_in(tree):
        is_let = part[0] == "name" and part[1] in lets
        if is_let and lets[part[1]] is None:
            return None
        size += size_of(lets[part[1]]) if is_let else 1
    return replaced_lets(tree, lets) if size <= MOST_NODES else None


def replaced_lets(tree, lets):
    """The expression with the lets put in."""
    if tree[0] == "name":
        return lets.get(tree[1], tree)
    parts = parts_of(tree)
    return tree[:1] + tuple([replaced_lets(part, lets) for part in parts]) + tree[1 + len(parts):]


def unread_lets(steps):
    """The names of the lets that neither the rank nor a let that is so read reads."""
    need(are_some_steps(steps, False), "steps")
    read = {name: True for name in names_of_step(steps[-1])}
    unread = []
    # Who reads a let stands behind it.
    for step in reversed(steps):
        if step[0] == "let":
            if step[1] in read:
                read.update({name: True for name in names_of_step(step)})
            else:
                unread.append(step[1])
    return tuple(reversed(unread))
