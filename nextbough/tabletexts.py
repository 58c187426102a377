"""The texts of tables."""

from nextbough.checks import PACKET_BOUND, is_below, is_numbers, need
from nextbough.textparts import behind, need_end, numbers_told, read_numbers, read_packet, read_row


def table_text(table):
    """The text of the table."""
    need(is_table(table), "table")
    return " ".join([f"{fork}.{node}:{numbers_told(masks)}" for fork, node, masks in table])


def is_table(thing):
    """Whether thing is a tuple of at least one row."""
    return isinstance(thing, tuple) and len(thing) > 0 and all([is_row(row) for row in thing])


def is_row(thing):
    """Whether thing is a row of a table: a fork, a node and masks."""
    if not isinstance(thing, tuple) or len(thing) != 3:
        return False
    if not is_below(thing[0], PACKET_BOUND) or not is_below(thing[1], PACKET_BOUND):
        return False
    masks = thing[2]
    return isinstance(masks, tuple) and len(masks) > 0 and is_numbers(masks, len(masks), PACKET_BOUND)


def read_table(text):
    """The table whose text is text."""
    need(isinstance(text, str), "text")
    table, end = read_row(text, 0, " ", read_table_row, None)
    need_end(text, end)
    return table


def read_table_row(text, at):
    """The row that begins at the place, and where it ends."""
    fork, at = read_packet(text, at)
    node, at = read_packet(text, behind(text, at, "."))
    masks, at = read_numbers(text, behind(text, at, ":"))
    return ((fork, node, masks), at)
