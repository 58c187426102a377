"""Sections and outs, worked out."""

from nextbough.factkinds import FIELD_NAMES
from nextbough.worths import worth_in


def facts_table(facts, number):
    """The worths of the names that the facts of a packet and its number tell, in a new dict."""
    kind, size, stamp, fields = facts
    table = {"class": kind, "size": size, "stamp": stamp, "number": number}
    for place, name in enumerate(FIELD_NAMES):
        table[name] = fields[place] if place < len(fields) else 0
    return table


def worked_steps(steps, table):
    """The rank, () if no step tells one, and the sets, pairs (name, worth), that come of the steps.

    None if anything that comes up is no worth. Adds the lets to table.
    """
    rank = ()
    sets = []
    for step in steps:
        if step[0] == "rank":
            worths = [worth_in(tree, table) for tree in step[1]]
            if None in worths:
                return None
            rank = tuple(worths)
            continue
        worth = worth_in(step[2], table)
        if worth is None:
            return None
        if step[0] == "let":
            table[step[1]] = worth
        else:
            sets.append((step[1], worth))
    return (rank, tuple(sets))
