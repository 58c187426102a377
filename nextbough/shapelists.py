"""All plain and turned shapes with so many queues."""

from math import comb

from nextbough.checks import is_count, need
from nextbough.shapekinds import MOST_CHILDREN


def list_shapes(many):
    """The plain and turned shapes with that many queues, by their texts."""
    need(is_count(many), "many")
    # Rows (number of queues, text, shape), sorted as the children of a turned fork are.
    pool = [(1, "o", ())]
    rows = list(pool)
    for size in range(2, many + 1):
        rows = []
        add_forks(pool, 0, size, [], rows)
        rows = sorted(rows, key=lambda row: row[1])
        pool = pool + rows
    return tuple([row[2] for row in rows])


def add_forks(pool, start, left, kids, rows):
    """Adds to rows each fork of kids and further rows of the pool, from start on, with left queues."""
    if left == 0:
        words = " ".join([kid[1] for kid in kids])
        rows.append((sum([kid[0] for kid in kids]), f"({words})", tuple([kid[2] for kid in kids])))
    elif len(kids) < MOST_CHILDREN:
        for place in range(start, len(pool)):
            if pool[place][0] > left:
                break
            add_forks(pool, place, left - pool[place][0], kids + [pool[place]], rows)


def count_shapes(many):
    """How many plain and turned shapes have that many queues."""
    need(is_count(many), "many")
    # ways[k][n]: in how many ways k shapes, among those counted so far, have n queues together.
    ways = [[0] * (many + 1) for _ in range(MOST_CHILDREN + 1)]
    ways[0][0] = 1
    found = 1
    for size in range(1, many + 1):
        if size > 1:
            found = sum([row[size] for row in ways[2:]])
        ways = with_shapes(ways, size, found, many)
    return found


def with_shapes(ways, size, found, many):
    """The ways when so many (found) shapes of this size are let, too."""
    rows = [[0] * (many + 1) for _ in range(MOST_CHILDREN + 1)]
    for kids in range(MOST_CHILDREN + 1):
        for more in range(MOST_CHILDREN + 1 - kids):
            choices = comb(found + more - 1, more)
            for queues in range(many + 1 - more * size):
                rows[kids + more][queues + more * size] += ways[kids][queues] * choices
    return rows
