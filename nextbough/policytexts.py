"""The texts of policies."""

from nextbough.checks import need
from nextbough.policies import Policy
from nextbough.policychecks import check_rows, kids_by_fork
from nextbough.policylines import read_lines
from nextbough.trees import ShapeTree


def read_policy(text):
    """The policy of the text."""
    need(isinstance(text, str), "text")
    rows = read_lines(text)
    check_rows(rows)
    return Policy(parts_told(rows))


def parts_told(rows):
    """The parts that the lines of a policy tell."""
    shape, names = bough_told(rows[0][1], kids_by_fork(rows))
    tree = ShapeTree(shape)
    keeps = {name: [] for name in names}
    # The steps of a section by its node and child, those of an out by its node.
    sections = {}
    outs = {}
    block = ""
    steps = []
    for row in rows:
        if row[0] == "at":
            block = row[1]
        elif row[0] == "keep":
            keeps[block].append(row[1:])
        elif row[0] == "in":
            steps = []
            sections[(block, row[1])] = steps
        elif row[0] == "out":
            steps = []
            outs[block] = steps
        elif row[0] in ("let", "set", "rank"):
            steps.append(row)
    routes = [route_told(tree, names, sections, row) for row in rows if row[0] == "class"]
    left = [(node, name, (), tuple(outs[name])) for node, name in enumerate(names) if name in outs]
    return (shape, names, tuple([(name, tuple(keeps[name])) for name in names]), tuple(routes), tuple(left))


def bough_told(name, kids):
    """The shape of the bough of the node with this name, and the names of its nodes, in sequence."""
    boughs = [bough_told(kid, kids) for kid in kids.get(name, ())]
    names = [name]
    for bough in boughs:
        names.extend(bough[1])
    return (tuple([bough[0] for bough in boughs]), tuple(names))


def route_told(tree, names, sections, row):
    """The route of a class line."""
    queue = [names[node] for node in tree.leaves].index(row[2])
    path = [names[node] for node in tree.paths[queue]]
    # The child toward the queue, behind the name of each node of the path.
    pairs = [(name, tuple(sections[(name, kid)])) for name, kid in zip(path, path[1:] + [None])]
    return (row[1], queue, tuple(pairs))
