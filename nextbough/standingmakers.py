"""Standings made of their lines."""

from nextbough.checks import PACKET_BOUND, is_below, need
from nextbough.errors import InvalidPaper
from nextbough.rankkinds import is_line
from nextbough.standings import standing_with
from nextbough.trees import shape_tree


def lets_lines(form, thing):
    """Checks whether thing is the tuple of the lines of a standing of form; how many packets it has."""
    tree = shape_tree(form, "form")
    if not isinstance(thing, tuple) or len(thing) != len(tree.kids):
        raise InvalidPaper("shape", -1)
    seen = {}
    for node in range(len(tree.kids)):
        check_line(tree, thing, node, seen)
    return len(seen)


def check_line(tree, lines, node, seen):
    """The checks of the line of one node; those of the nodes before it are done. Adds its packets to seen."""
    line = lines[node]
    if not is_line(line):
        raise InvalidPaper("line", node)
    bound = len(tree.kids[node]) if tree.kids[node] else PACKET_BOUND
    for entry in line:
        if not is_below(entry[1], bound):
            raise InvalidPaper("item", node)
    if node > 0 and len(line) != many_named(lines[tree.parents[node]], tree.sides[node]):
        raise InvalidPaper("many", node)
    if not tree.kids[node]:
        for entry in line:
            if entry[1] in seen:
                raise InvalidPaper("twice", node)
            seen[entry[1]] = True


def many_named(line, child):
    """How many entries of the line have this child as their item."""
    return len([entry for entry in line if entry[1] == child])


def standing_of(form, lines):
    """The standing of form with these lines."""
    need(are_lines(form, lines), "lines")
    return standing_with(form, lines)


def are_lines(form, lines):
    """Whether lets_lines accepts the lines."""
    try:
        lets_lines(form, lines)
    except InvalidPaper:
        return False
    return True
