"""The lines of the texts of policies, one by one.

A line that is read is a tuple of its word and of what it tells: ("root", node), ("tree", node, kids),
("class", number or "*", node), ("at", node), ("keep", name, worth), ("in", kid or None), ("out",),
("let", name, tree), ("set", name, tree), ("rank", trees).
"""

from nextbough.errors import InvalidPolicy, InvalidText
from nextbough.exprtexts import read_expr, read_integer, read_sum
from nextbough.factkinds import CLASS_BOUND, is_name
from nextbough.shapekinds import MOST_CHILDREN

# How the line of each word begins.
BEGINNINGS = {
    "root": "root ",
    "tree": "tree ",
    "class": "class ",
    "at": "at ",
    "keep": "  keep ",
    "in": "  in",
    "out": "  out",
    "let": "    let ",
    "set": "    set ",
    "rank": "    rank ",
}
# Which words may follow in each state. A state is called by the word of the last line, but behind
# the last class it is "classes", and behind a let or set of an out "out".
FOLLOWING = {
    "": ("root",),
    "root": ("tree", "class"),
    "tree": ("tree", "class"),
    "class": ("class",),
    "classes": ("at",),
    "at": ("keep", "in"),
    "keep": ("keep", "in"),
    "in": ("let", "set", "rank"),
    "rank": ("in", "out", "at"),
    "out": ("let", "set", "at"),
}
ENDINGS = ("classes", "rank", "out")
MOST_EXPRS = 4


def read_lines(text):
    """All lines of the text; the first one that may not stand where it stands is refused as "form"."""
    rows = []
    state = ""
    # The nodes with tree lines, the last class, and the node of the block.
    forks = {}
    last = -1
    block = ""
    lines = text.split("\n")
    for place, line in enumerate(lines):
        row = read_line(line, FOLLOWING[state], block in forks)
        if row is None or row[0] == "class" and row[1] != "*" and row[1] <= last:
            raise InvalidPolicy(place, "form")
        rows.append(row)
        if row[0] == "tree":
            forks[row[1]] = True
        elif row[0] == "class" and row[1] != "*":
            last = row[1]
        elif row[0] == "at":
            block = row[1]
        state = next_state(state, row)
    if state not in ENDINGS:
        raise InvalidPolicy(len(lines), "form")
    return rows


def next_state(state, row):
    """The state behind a line."""
    if row[0] in ("let", "set"):
        return state
    return "classes" if row[:2] == ("class", "*") else row[0]


def read_line(line, words, is_fork):
    """The line, if it is one of these words, or else None; is_fork tells whether the block is that of a fork."""
    for word in words:
        if line.startswith(BEGINNINGS[word]):
            rest = line[len(BEGINNINGS[word]):]
            if word == "in":
                return read_in(rest, is_fork)
            if word == "out":
                return ("out",) if rest == "" else None
            if word == "rank":
                return read_rank_line(rest)
            return read_named(word, rest)
    return None


def read_in(rest, is_fork):
    """An in line, behind its word."""
    if not is_fork:
        return ("in", None) if rest == "" else None
    return ("in", rest[1:]) if rest[:1] == " " and is_name(rest[1:]) else None


def read_named(word, rest):
    """A line with a name, behind its word."""
    if word in ("root", "at"):
        return (word, rest) if is_name(rest) else None
    if word == "class":
        return read_class(rest)
    name, space, rest = rest.partition(" ")
    if space == "" or not is_name(name):
        return None
    if word == "tree":
        return read_kids(name, rest)
    found = read_number(rest) if word == "keep" else read_tree(rest)
    return None if found is None else (word, name, found)


def read_tree(text):
    """The expression whose text is text, or None."""
    try:
        return read_expr(text)
    except InvalidText:
        return None


def read_class(rest):
    """A class line, behind its word."""
    number, _, node = rest.partition(" ")
    if not is_name(node):
        return None
    if number == "*":
        return ("class", "*", node)
    value = read_number(number)
    return None if value is None or not 0 <= value < CLASS_BOUND else ("class", value, node)


def read_number(text):
    """The INT that the text is, or None."""
    try:
        value, end = read_integer(text, 0)
    except InvalidText:
        return None
    return value if end == len(text) else None


def read_kids(name, rest):
    """A tree line, behind the name of the fork."""
    if not rest.startswith("(") or not rest.endswith(")"):
        return None
    kids = rest[1:-1].split(" ")
    if not 2 <= len(kids) <= MOST_CHILDREN or not all([is_name(kid) for kid in kids]):
        return None
    return ("tree", name, tuple(kids))


def read_rank_line(rest):
    """A rank line, behind its word."""
    trees = []
    at = 0
    try:
        tree, at = read_sum(rest, at)
        trees.append(tree)
        while rest[at:at + 2] == ", ":
            tree, at = read_sum(rest, at + 2)
            trees.append(tree)
    except InvalidText:
        return None
    return ("rank", tuple(trees)) if at == len(rest) and len(trees) <= MOST_EXPRS else None
