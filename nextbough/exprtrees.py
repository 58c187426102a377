"""Expressions as trees: what is one, its parts, its names, its size."""

from nextbough.checks import need
from nextbough.factkinds import is_fact_name, is_name, is_worth

# How many expressions follow a word; part and rest have one, and then an integer of at least 1.
PARTS = {"+": 2, "-": 2, "*": 2, "max": 2, "min": 2, "if": 3, "less": 2, "same": 2, "part": 1, "rest": 1}
DIVIDING = ("part", "rest")


def is_read_name(thing):
    """Whether thing is a NAME: a name, or that of a fact, or rank."""
    return is_name(thing) or isinstance(thing, str) and (is_fact_name(thing) or thing == "rank")


def is_tree(thing):
    """Whether thing is an expression as a tree."""
    left = [thing]
    while left:
        part = left.pop()
        if not is_node(part):
            return False
        left.extend(parts_of(part))
    return True


def is_node(thing):
    """Whether thing is the tuple of an expression, its parts not looked at."""
    if not isinstance(thing, tuple) or len(thing) < 2 or not isinstance(thing[0], str):
        return False
    word = thing[0]
    if word == "int":
        return len(thing) == 2 and is_worth(thing[1])
    if word == "name":
        return len(thing) == 2 and is_read_name(thing[1])
    if word in DIVIDING:
        return len(thing) == 3 and is_worth(thing[2]) and thing[2] >= 1
    return word in PARTS and len(thing) == 1 + PARTS[word]


def parts_of(tree):
    """The expressions right in the expression."""
    return tree[1:1 + PARTS.get(tree[0], 0)]


def need_tree(tree):
    """Refuses the parameter tree unless it is an expression as a tree."""
    need(is_tree(tree), "tree")


def nodes_in(tree):
    """The list of all expressions in the expression, parts ahead of what they are in, from the left."""
    found = []
    left = [tree]
    while left:
        part = left.pop()
        found.append(part)
        left.extend(parts_of(part))
    # Each one was found ahead of its parts, and these from the right.
    found.reverse()
    return found


def names_in(tree):
    """The list of the names in the expression."""
    return [part[1] for part in nodes_in(tree) if part[0] == "name"]


def size_of(tree):
    """How many nodes the expression has."""
    return len(nodes_in(tree))
