"""What tells two standings apart: some departures, at most one push, and departures."""

from nextbough.checks import is_number, need
from nextbough.errors import InvalidPaper
from nextbough.playing import packet_gone
from nextbough.rankkinds import is_way
from nextbough.shapekinds import is_plain
from nextbough.standings import Standing, need_standing, order_at


def parting_of(one, other):
    """A test that shows a difference between the two standings, or None if all their lines are equal."""
    need_pair(one, other)
    if one.lines == other.lines:
        return None
    order = one.order()
    if order != other.order():
        return (0, None, None)
    for behind, number in enumerate(order):
        if one.seats[number] != other.seats[number]:
            return moved_test(one, other, behind, one.seats[number])
    return rank_test(one, other, order)


def need_pair(one, other):
    """Refuses one and other unless they are as parting_of asks."""
    need_standing(one, "one")
    need(is_plain(one.tree.form), "one")
    need(isinstance(other, Standing), "other")
    need(one.tree.form == other.tree.form, "other")
    at_queues = has_bare_rank(one, False) or has_bare_rank(other, False)
    at_forks = has_bare_rank(one, True) or has_bare_rank(other, True)
    need(not at_queues or not at_forks, "other")


def has_bare_rank(standing, forks):
    """Whether an entry of a fork (or else of a queue) has the rank (); such entries are the first ones."""
    for kids, line in zip(standing.tree.kids, standing.lines):
        if bool(kids) == forks and line and line[0][0] == ():
            return True
    return False


def moved_test(one, other, behind, queue):
    """A test where the orders are alike, and their packet at the place behind is in one at queue, not in other.

    That packet is then the first one of both. If no queue of one has a rank (), the new packet is
    put ahead of it in the line of queue alone, so it departs from one at once, but not from other,
    which takes the packet from another queue. Otherwise no fork has a rank (): the new packet is
    put behind in that line, but first in all lines above, so both take the first packet at queue.
    """
    path = one.tree.paths[queue]
    ranks = [last_rank(one, other, node) for node in path]
    if has_bare_rank(one, False):
        ranks = [()] * (len(path) - 1) + [ranks[-1]]
    else:
        ranks = ranks[:-1] + [()]
    return (behind, queue, tuple(ranks))


def rank_test(one, other, order):
    """A test where all lines have the same items: it stands upon the first two ranks that differ.

    When the packet of their entries is the first one, the lesser of the two ranks puts a new entry
    ahead of it in just one of the standings. At a queue that entry is the new packet's own; at a
    fork it is that of another child, so this one departs something else.
    """
    node, place = unlike_entry(one, other)
    tree = one.tree
    behind = order.index(order_at(tree, one.lines, node)[place])
    queue = tree.lows[node]
    if tree.kids[node]:
        child = one.lines[node][place][1]
        queue = tree.lows[tree.kids[node][1 if child == 0 else 0]]
    ranks = []
    for step in tree.paths[queue]:
        if step == node:
            ranks.append(min(one.lines[node][place][0], other.lines[node][place][0]))
        else:
            ranks.append(last_rank(one, other, step))
    return (behind, queue, tuple(ranks))


def unlike_entry(one, other):
    """The first node, and the first place of its line, where the entries differ."""
    for node, line in enumerate(one.lines):
        for place, entry in enumerate(line):
            if entry != other.lines[node][place]:
                return (node, place)
    return None


def last_rank(one, other, node):
    """A rank that puts an entry behind all others of the line of node in both standings."""
    rank = ()
    for line in (one.lines[node], other.lines[node]):
        if line:
            rank = max(rank, line[-1][0])
    return rank


def lets_parting(one, other, test):
    """Checks whether the test shows a difference; the place of the first departure that differs."""
    need_pair(one, other)
    if not isinstance(test, tuple) or len(test) != 3:
        raise InvalidPaper("shape", -1)
    behind, queue, ranks = test
    if not is_number(behind) or behind > one.many_present():
        raise InvalidPaper("behind", -1)
    pushes = not (queue is None and ranks is None)
    if pushes and not is_way(one.tree, queue, ranks):
        raise InvalidPaper("way", -1)
    number = fresh_number(one, other)
    left = one.twin()
    right = other.twin()
    place = unlike_departure(left, right, 0, behind)
    if place is None:
        if pushes:
            left.push(number, queue, ranks)
            right.push(number, queue, ranks)
        more = max(left.many_present(), right.many_present())
        place = unlike_departure(left, right, behind, behind + more)
    if place is None:
        raise InvalidPaper("same", -1)
    return place


def fresh_number(one, other):
    """The least number that is present in neither standing."""
    number = 0
    while number in one.seats or number in other.seats:
        number += 1
    return number


def unlike_departure(left, right, start, stop):
    """Lets both depart for the places from start up to stop; the first place that differs, or None."""
    for place in range(start, stop):
        if packet_gone(left) != packet_gone(right):
            return place
    return None
