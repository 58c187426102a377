"""Steps as rows of code, and expressions worked out beforehand."""

from nextbough.checks import need
from nextbough.exprtrees import DIVIDING, PARTS, is_read_name, need_tree, nodes_in, parts_of
from nextbough.factkinds import is_name, is_worth
from nextbough.stepkinds import MOST_RANK_TREES, are_some_steps, is_told, trees_of
from nextbough.worths import are_named, worth_behind, worth_in


def section_codes(steps):
    """The rows of the steps."""
    need(are_some_steps(steps, False) or are_some_steps(steps, True), "steps")
    rows = []
    for step in steps:
        for tree in trees_of(step):
            rows.extend([code_of(part) for part in nodes_in(tree)])
        if step[0] == "rank":
            rows.append(("rank", len(step[1])))
        else:
            rows.append(step[:2])
    return tuple(rows)


def code_of(tree):
    """The row of the expression itself, without those of its parts."""
    return tree[:1] + tree[1 + len(parts_of(tree)):]


def run_codes(rows, names):
    """The rank and the sets that the rows give, or None if anything that comes up is no worth."""
    need(are_codes(rows), "rows")
    need(are_named(names), "names")
    table = {name: worth for name, worth in names}
    need(all([name in table for name in names_wanted(rows)]), "names")
    rank = ()
    sets = []
    worths = []
    for row in rows:
        if row[0] == "rank":
            rank = tuple(worths)
        elif row[0] == "let":
            table[row[1]] = worths.pop()
        elif row[0] == "set":
            sets.append((row[1], worths.pop()))
        else:
            worth = worth_behind(worths, row, table)
            if worth is None:
                return None
            worths.append(worth)
    return (rank, tuple(sets))


def are_codes(thing):
    """Whether thing is the rows of some steps."""
    if not isinstance(thing, tuple):
        return False
    # How many worths are there that no row has taken yet.
    many = 0
    for place, row in enumerate(thing):
        if not is_code(row):
            return False
        taken = many_taken(row)
        if taken > many or row[0] in ("let", "set", "rank") and taken != many:
            return False
        if row[0] == "rank" and place + 1 < len(thing):
            return False
        many = many - taken + (0 if row[0] in ("let", "set", "rank") else 1)
    is_out = len(thing) == 0 or thing[-1][0] != "rank"
    return many == 0 and are_named_codes(thing, is_out)


def is_code(thing):
    """Whether thing has the form of a row."""
    if not isinstance(thing, tuple) or len(thing) == 0 or not isinstance(thing[0], str):
        return False
    word = thing[0]
    if word in PARTS and word not in DIVIDING:
        return len(thing) == 1
    if len(thing) != 2:
        return False
    if word == "int" or word in DIVIDING:
        return is_worth(thing[1]) and (word == "int" or thing[1] >= 1)
    if word == "rank":
        return is_worth(thing[1]) and 1 <= thing[1] <= MOST_RANK_TREES
    return is_read_name(thing[1]) if word == "name" else word in ("let", "set") and is_name(thing[1])


def many_taken(row):
    """How many worths the row takes."""
    if row[0] == "rank":
        return row[1]
    return 1 if row[0] in ("let", "set") else PARTS.get(row[0], 0)


def are_named_codes(rows, is_out):
    """Whether lets are new names, and neither set nor read ahead of themselves, and all names may be read."""
    lets = {}
    # What is set or read; no let may come to be called so behind it.
    others = {}
    for row in rows:
        if row[0] == "let" and (row[1] in lets or row[1] in others):
            return False
        if row[0] == "set" and row[1] in lets:
            return False
        if row[0] == "name" and not is_name(row[1]) and not is_told(row[1], is_out):
            return False
        if row[0] == "let":
            lets[row[1]] = True
        elif row[0] in ("set", "name"):
            others[row[1]] = True
    return True


def names_wanted(rows):
    """The names that the rows read, but for those of lets."""
    lets = [row[1] for row in rows if row[0] == "let"]
    return [row[1] for row in rows if row[0] == "name" and row[1] not in lets]


def folded(tree):
    """The expression with an integer for each greatest part without names that has a worth."""
    need_tree(tree)
    return folded_part(tree)[0]


def folded_part(tree):
    """The expression, folded, and whether it is now an integer that stands for all of it."""
    if tree[0] == "int":
        return (tree, True)
    if tree[0] == "name":
        return (tree, False)
    parts = [folded_part(part) for part in parts_of(tree)]
    left = tree[:1] + tuple([part[0] for part in parts]) + tree[1 + len(parts):]
    if all([part[1] for part in parts]):
        worth = worth_in(left, {})
        if worth is not None:
            return (("int", worth), True)
    return (left, False)
