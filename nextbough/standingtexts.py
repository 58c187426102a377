"""The texts of standings."""

from nextbough.checks import need
from nextbough.errors import InvalidText
from nextbough.ranktexts import rank_told, read_rank_part
from nextbough.shapekinds import many_nodes
from nextbough.shapetexts import text_of
from nextbough.standingmakers import are_lines
from nextbough.standings import need_standing, standing_with
from nextbough.textparts import behind, need_end, read_form, read_packet, read_row


def standing_text(standing):
    """The text of the standing."""
    need_standing(standing, "standing")
    parts = [text_of(standing.tree.form)]
    for node, line in enumerate(standing.lines):
        entries = ";".join([f"{rank_told(rank)}@{item}" for rank, item in line])
        parts.append(f"{node}={entries}")
    return " | ".join(parts)


def read_standing_text(text):
    """The standing whose text is text."""
    need(isinstance(text, str), "text")
    form, at = read_form(text, 0)
    lines = []
    for node in range(many_nodes(form)):
        line, at = read_entries(text, behind(text, at, f" | {node}="))
        lines.append(line)
    need_end(text, at)
    if not are_lines(form, tuple(lines)):
        raise InvalidText(len(text))
    return standing_with(form, lines)


def read_entries(text, at):
    """The entries of a line that begin at the place, and where they end; none if the line ends there."""
    if text[at:at + 1] in ("", " "):
        return ((), at)
    return read_row(text, at, ";", read_entry, None)


def read_entry(text, at):
    """The entry that begins at the place, and where it ends."""
    rank, at = read_rank_part(text, at)
    item, at = read_packet(text, behind(text, at, "@"))
    return ((rank, item), at)
