"""What expressions are worth."""

from nextbough.checks import need
from nextbough.exprtrees import DIVIDING, PARTS, is_read_name, names_in, need_tree, nodes_in
from nextbough.factkinds import is_worth


def worth_of(tree, names):
    """The worth of the expression by the names, or None if anything that comes up is no worth."""
    need_tree(tree)
    need(are_named(names), "names")
    table = {name: worth for name, worth in names}
    need(all([name in table for name in names_in(tree)]), "names")
    return worth_in(tree, table)


def are_named(thing):
    """Whether thing is a tuple of pairs of a NAME and a worth, none twice."""
    if not isinstance(thing, tuple):
        return False
    seen = {}
    for pair in thing:
        if not isinstance(pair, tuple) or len(pair) != 2:
            return False
        if not is_read_name(pair[0]) or pair[0] in seen or not is_worth(pair[1]):
            return False
        seen[pair[0]] = True
    return True


def worth_in(tree, table):
    """The worth of the expression by a table that has all its names, or None."""
    worths = []
    for part in nodes_in(tree):
        worth = worth_behind(worths, part, table)
        if worth is None:
            return None
        worths.append(worth)
    return worths[0]


def worth_behind(worths, row, table):
    """The worth of an expression, or None if it is none, by those of its parts, which it takes off the end of worths.

    row is the expression, or its row of code: both begin with its word, and part and rest end with their integer.
    """
    if row[0] == "int":
        return row[1]
    if row[0] == "name":
        return table[row[1]]
    first = len(worths) - PARTS[row[0]]
    taken = worths[first:]
    del worths[first:]
    if row[0] in DIVIDING:
        taken.append(row[-1])
    value = joined_value(row[0], taken)
    return value if is_worth(value) else None


def joined_value(word, worths):
    """What the word gives for its arguments, which may be too great for a worth."""
    one = worths[0]
    other = worths[1]
    if word == "+":
        return one + other
    if word == "-":
        return one - other
    if word == "*":
        return one * other
    if word == "max":
        return max(one, other)
    if word == "min":
        return min(one, other)
    if word == "if":
        return other if one != 0 else worths[2]
    if word == "less":
        return 1 if one < other else 0
    if word == "same":
        return 1 if one == other else 0
    if word == "part":
        return one // other
    return one - other * (one // other)
