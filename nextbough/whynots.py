"""Tables that tell why a shape cannot be laid on a chip."""

from nextbough.checks import alike
from nextbough.errors import InvalidPaper
from nextbough.packing import fits_on, mask_table
from nextbough.trees import forks_in, plain_tree, shape_tree


def why_not(plain, chip):
    """The table of the greatest masks of all forks and nodes, or None if there is a laying."""
    tree = plain_tree(plain, "plain")
    board = shape_tree(chip, "chip")
    return None if fits_on(tree, board) else tuple(table_rows(tree, board))


def table_rows(tree, board):
    """The rows of the table: forks from the last to the first, for each the nodes of the board likewise."""
    table = mask_table(tree, board)
    rows = []
    for fork in reversed(forks_in(tree)):
        for node in reversed(range(len(board.kids))):
            rows.append((fork, node, tuple(table[fork][node])))
    return rows


def lets_why_not(plain, chip, table):
    """Checks whether table is what why_not tells; returns how many rows it has."""
    tree = plain_tree(plain, "plain")
    board = shape_tree(chip, "chip")
    rows = table_rows(tree, board)
    if not isinstance(table, tuple) or len(table) != len(rows):
        raise InvalidPaper("shape", -1)
    for place, row in enumerate(rows):
        check_row(row, table[place], place)
    if fits_on(tree, board):
        raise InvalidPaper("laid", -1)
    return len(rows)


def check_row(row, thing, place):
    """Checks whether thing, the element at this place, is the row."""
    if not isinstance(thing, tuple) or len(thing) != 3:
        raise InvalidPaper("row", place)
    if not alike(thing[:2], row[:2]) or not isinstance(thing[2], tuple):
        raise InvalidPaper("row", place)
    if not alike(thing[2], row[2]):
        raise InvalidPaper("masks", place)
