"""The words of the commands, and how their lines are read."""

from nextbough.checks import need
from nextbough.defeattexts import read_defeat
from nextbough.errors import InvalidCommand, InvalidText
from nextbough.factkinds import is_facts, is_name
from nextbough.mimics import KINDS
from nextbough.plantexts import read_plan
from nextbough.ranktexts import read_way
from nextbough.shapekinds import is_plain
from nextbough.shapetexts import read_shape
from nextbough.tabletexts import read_table
from nextbough.textparts import need_end, read_numbers, read_packet, read_row, read_worth

# The kinds of the arguments of each command.
COMMANDS = {
    "plain": ("shape",),
    "turned": ("shape",),
    "compare": ("shape", "shape"),
    "can": ("plain", "shape"),
    "count": ("plain", "shape"),
    "why": ("plain", "shape"),
    "least": ("plain", "shape", "numbers"),
    "nth": ("plain", "shape", "number"),
    "judge": ("plain", "shape", "table"),
    "defeat": ("plain", "shape", "defeat"),
    "foe": ("plain", "shape", "kind", "numbers"),
    "plan": ("plan",),
    "push": ("number", "way"),
    "depart": (),
    "chip": (),
    "lines": (),
    "moved": ("plan",),
    "policy": ("text",),
    "lean": (),
    "carry": ("shape",),
    "arrive": ("facts",),
    "next": (),
    "order": (),
    "keeps": (),
    "switch": ("shape", "text", "number"),
    "mount": ("name", "text", "number", "lean"),
    "unmount": ("name",),
    "exchange": ("name", "text"),
    "come": ("name", "facts"),
    "go": (),
    "moveto": ("shape",),
    "rows": (),
    "counts": ("name",),
    "images": (),
    "audit": (),
    "restart": (),
}
BETWEEN = " ; "
LEANS = {"lean": True, "whole": False}


def read_command(line):
    """The word of the command and its arguments."""
    need(isinstance(line, str), "line")
    return command_at(line, 0)


def command_at(line, place):
    """What read_command tells, place being the number of the line."""
    pieces = line.split(BETWEEN)
    word = pieces[0]
    if word not in COMMANDS:
        raise InvalidCommand(place, "command")
    kinds = COMMANDS[word]
    if len(pieces) != 1 + len(kinds):
        raise InvalidCommand(place, "many")
    command = [word]
    for kind, piece in zip(kinds, pieces[1:]):
        try:
            command.append(argument_read(kind, piece))
        except InvalidText:
            raise InvalidCommand(place, kind) from None
    return tuple(command)


def argument_read(kind, piece):
    """What the piece tells as an argument of the kind; InvalidText if it is none."""
    if kind in ("shape", "plain"):
        form = read_shape(piece)
        return fitting(form, kind == "shape" or is_plain(form))
    if kind == "number":
        return whole_read(piece, read_packet)
    if kind == "numbers":
        return whole_read(piece, read_numbers)
    if kind == "way":
        return read_way(piece)
    if kind == "table":
        return read_table(piece)
    if kind == "defeat":
        return read_defeat(piece)
    if kind == "plan":
        return read_plan(piece)
    if kind == "facts":
        return facts_read(piece)
    return word_read(kind, piece)


def word_read(kind, piece):
    """What the piece tells as a name, kind, lean or text."""
    if kind == "name":
        return fitting(piece, is_name(piece))
    if kind == "kind":
        return fitting(piece, piece in KINDS)
    if kind == "lean":
        return fitting(LEANS.get(piece), piece in LEANS)
    return piece.replace(";", "\n")


def fitting(thing, fits):
    """The thing, if it fits."""
    if not fits:
        raise InvalidText(0)
    return thing


def whole_read(piece, reader):
    """What the reader reads, if that is the whole piece."""
    thing, end = reader(piece, 0)
    need_end(piece, end)
    return thing


def facts_read(piece):
    """The facts that the piece tells."""
    row = whole_read(piece, read_integers)
    facts = row[:3] + (row[3:],)
    return fitting(facts, is_facts(facts))


def read_integers(text, at):
    """The integers, with commas between, that begin at the place."""
    return read_row(text, at, ",", read_worth, None)
