"""Ranks and places by which a new packet comes to a wished place."""

from nextbough.checks import is_below, is_integer, is_number, need
from nextbough.errors import NoGap
from nextbough.rankkinds import is_line
from nextbough.standings import need_standing
from nextbough.trees import need_queue

# The integers of single lines are strictly within this bound.
SINGLE_BOUND = 1 << 199
LEAST_GAP = 2
GREATEST_GAP = 1 << 80


def rank_at(line, place, gap):
    """A rank by which an entry comes to the place of the single line."""
    need(is_line(line) and is_single(line), "line")
    need(is_below(place, len(line) + 1), "place")
    need(is_gap(gap), "gap")
    found = integer_at(line, place, gap)
    if found is None:
        raise NoGap(-1)
    return (found,)


def is_single(line):
    """Whether each rank of the line has just one integer, within the bound."""
    for entry in line:
        rank = entry[0]
        if len(rank) != 1 or not -SINGLE_BOUND < rank[0] < SINGLE_BOUND:
            return False
    return True


def is_gap(thing):
    """Whether thing may be a gap."""
    return is_integer(thing) and LEAST_GAP <= thing <= GREATEST_GAP


def integer_at(line, place, gap):
    """The integer of a rank by which an entry comes to the place of the single line; None if none is between."""
    many = len(line)
    if many == 0:
        return 0
    if place == 0:
        return line[0][0][0] - gap
    if place == many:
        return line[many - 1][0][0] + gap
    low = line[place - 1][0][0]
    high = line[place][0][0]
    return None if high - low < 2 else (low + high) // 2


def ranks_at(standing, queue, places, gap):
    """Ranks by which a packet's entries come to these places of the lines of the path of queue."""
    need_standing(standing, "standing")
    tree = standing.tree
    if is_below(queue, len(tree.leaves)):
        for node in tree.paths[queue]:
            need(is_single(standing.lines[node]), "standing")
    need_queue(tree, queue, "queue")
    path = tree.paths[queue]
    need(are_places(standing, path, places), "places")
    need(is_gap(gap), "gap")
    ranks = []
    for node, place in zip(path, places):
        found = integer_at(standing.lines[node], place, gap)
        if found is None:
            raise NoGap(node)
        ranks.append((found,))
    return tuple(ranks)


def are_places(standing, path, thing):
    """Whether thing is a tuple of places, one of the line of each node of the path."""
    if not isinstance(thing, tuple) or len(thing) != len(path):
        return False
    for node, place in zip(path, thing):
        if not is_below(place, len(standing.lines[node]) + 1):
            return False
    return True


def plain_places(standing, queue, node, place):
    """Places, from node down to queue, by which a new packet comes to this place of the order of node."""
    need_standing(standing, "standing")
    tree = standing.tree
    need_queue(tree, queue, "queue")
    path = tree.paths[queue]
    need(is_number(node) and node in path, "node")
    need(is_below(place, len(standing.lines[node]) + 1), "place")
    places = [place]
    above = node
    for below in path[path.index(node) + 1:]:
        ahead = standing.lines[above][:places[-1]]
        places.append(len([entry for entry in ahead if entry[1] == tree.sides[below]]))
        above = below
    return tuple(places)
