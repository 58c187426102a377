"""Where a new packet can be pushed to bring about a wished order."""

from nextbough.checks import PACKET_BOUND, is_numbers, need
from nextbough.standings import need_absent, need_standing, order_at


def keeping_answers(standing, number, wish):
    """The queues where a push of the packet makes wish the order, each with its least places."""
    need_standing(standing, "standing")
    need_absent(standing, number)
    many = standing.many_present() + 1
    need(is_numbers(wish, many, PACKET_BOUND), "wish")
    need(sorted(wish) == sorted(list(standing.seats.keys()) + [number]), "wish")
    return tuple(keepings_at(standing, 0, number, list(wish)))


def keepings_at(standing, node, number, wish):
    """The pairs (queue, places from node on) by which wish becomes the order of node."""
    tree = standing.tree
    kids = tree.kids[node]
    if not kids:
        place = least_place(standing.lines[node], wish, number)
        return [] if place is None else [(tree.lows[node], (place,))]
    sides = {}
    for kid in kids:
        for queue in range(tree.lows[kid], tree.highs[kid]):
            sides[queue] = tree.sides[kid]
    # Each packet's child; the new one may come to any.
    childs = [-1 if packet == number else sides[standing.seats[packet]] for packet in wish]
    parts = [[packet for packet, child in zip(wish, childs) if child in (side, -1)] for side in range(len(kids))]
    moved = [side for side, kid in enumerate(kids) if not is_kept(standing, kid, parts[side], number)]
    found = []
    for side, kid in enumerate(kids):
        # A push changes the order of one child alone.
        if moved and moved != [side]:
            continue
        place = least_place(standing.lines[node], [side if child == -1 else child for child in childs], side)
        if place is not None:
            rows = keepings_at(standing, kid, number, parts[side])
            found.extend([(queue, (place,) + places) for queue, places in rows])
    return found


def is_kept(standing, node, part, number):
    """Whether the part, without the number, is the order of node."""
    return [packet for packet in part if packet != number] == order_at(standing.tree, standing.lines, node)


def least_place(line, wish, item):
    """The least place of the line at which the item, put there, makes its items those of wish; None if none does."""
    held = [entry[1] for entry in line]
    place = len(held)
    while place > 0 and held[place - 1] == wish[place]:
        place -= 1
    return place if held[:place] + [item] + held[place:] == wish else None
