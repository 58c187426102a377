"""What the lines of a policy's text have to be together, word by word.

Each of these functions returns the first line to which its word applies, or None. It may take it
that the words ahead of its own do not apply.
"""

from nextbough.errors import InvalidPolicy
from nextbough.exprtrees import size_of
from nextbough.stepkinds import is_told, names_of_step, trees_of

MOST_STEPS = 12
MOST_TREE_NODES = 60
MOST_QUEUES = 16
MOST_FORKS = 7


def check_rows(rows):
    """Refuses the lines with the first word that applies, and the first line to which it does."""
    need_none(twice_line(rows), "twice")
    need_none(name_line(rows), "name")
    need_none(tree_line(rows), "tree")
    need_none(lacks_line(rows), "lacks")
    need_none(word_line(rows), "word")
    need_none(limit_line(rows), "limit")


def need_none(line, word):
    """Refuses the policy at the line, if there is one."""
    if line is not None:
        raise InvalidPolicy(line, word)


def kids_by_fork(rows):
    """The children of each fork, by its name."""
    return {row[1]: row[2] for row in rows if row[0] == "tree"}


def node_names(rows):
    """The names of all nodes, as the keys of a dict: that of the root, and those of all children."""
    nodes = {rows[0][1]: True}
    for row in rows:
        if row[0] == "tree":
            nodes.update({kid: True for kid in row[2]})
    return nodes


def twice_line(rows):
    """The first line that names again what may be named once."""
    seen = {}
    block = 0
    part = 0
    for line, row in enumerate(rows):
        if row[0] == "at":
            block = line
        elif row[0] in ("in", "out"):
            part = line
        keys = keys_of(row, block, part)
        # A let may be no keep of its block, either.
        if row[0] == "let" and ("keep", block, row[1]) in seen:
            return line
        for key in keys:
            if key in seen:
                return line
            seen[key] = True
    return None


def keys_of(row, block, part):
    """What the row names that no other one may name; block and part are the lines that begin these."""
    if row[0] == "tree":
        return [("tree", row[1])] + [("kid", kid) for kid in row[2]]
    if row[0] == "at":
        return [("at", row[1])]
    if row[0] in ("keep", "in"):
        return [(row[0], block, row[1])]
    if row[0] == "let":
        return [("let", part, row[1])]
    return []


def name_line(rows):
    """The first line that names what is not there, or is of another kind."""
    nodes = node_names(rows)
    kids = kids_by_fork(rows)
    block = ""
    keeps = {}
    for line, row in enumerate(rows):
        if row[0] == "at":
            block = row[1]
            keeps = {}
        elif row[0] == "keep":
            keeps[row[1]] = True
        elif row[0] == "in" and row[1] is not None and row[1] not in kids[block]:
            return line
        elif row[0] == "set" and row[1] not in keeps:
            return line
        elif row[0] == "class" and (row[2] not in nodes or row[2] in kids):
            return line
        if row[0] in ("tree", "at") and row[1] not in nodes:
            return line
    return None


def tree_line(rows):
    """0 if the nodes are not one tree from the root."""
    kids = kids_by_fork(rows)
    reached = {}
    left = [rows[0][1]]
    while left:
        node = left.pop()
        if node in reached:
            return 0
        reached[node] = True
        left.extend(kids.get(node, ()))
    return None if len(reached) == len(node_names(rows)) else 0


def lacks_line(rows):
    """The first at line whose block lacks the in of a child, or -1 if a node has no block."""
    kids = kids_by_fork(rows)
    lines = {}
    # By block the children without an in line.
    lacking = {}
    block = ""
    for line, row in enumerate(rows):
        if row[0] == "at":
            block = row[1]
            lines[block] = line
            lacking[block] = list(kids.get(block, ()))
        elif row[0] == "in" and row[1] is not None:
            lacking[block].remove(row[1])
    for name, left in lacking.items():
        if left:
            return lines[name]
    return None if len(lines) == len(node_names(rows)) else -1


def word_line(rows):
    """The first line with an expression that has a name which it may not have."""
    keeps = {}
    lets = {}
    is_out = False
    for line, row in enumerate(rows):
        if row[0] == "at":
            keeps = {}
        elif row[0] == "keep":
            keeps[row[1]] = True
        elif row[0] in ("in", "out"):
            lets = {}
            is_out = row[0] == "out"
        elif row[0] in ("let", "set", "rank"):
            for name in names_of_step(row):
                if not (name in keeps or name in lets or is_told(name, is_out)):
                    return line
            if row[0] == "let":
                lets[row[1]] = True
    return None


def limit_line(rows):
    """The first line with a step too many, or with an expression too great, or 0 if the tree is too great."""
    steps = 0
    for line, row in enumerate(rows):
        if row[0] in ("in", "out"):
            steps = 0
        elif row[0] in ("let", "set", "rank"):
            steps += 1
            if steps > MOST_STEPS or max([size_of(tree) for tree in trees_of(row)]) > MOST_TREE_NODES:
                return line
    kids = kids_by_fork(rows)
    queues = 0
    left = [(rows[0][1], 0)]
    while left:
        node, forks = left.pop()
        if node not in kids:
            queues += 1
            if queues > MOST_QUEUES or forks > MOST_FORKS:
                return 0
        left.extend([(kid, forks + 1) for kid in kids.get(node, ())])
    return None
