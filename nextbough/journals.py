"""Journals of switches, done again."""

from nextbough.checks import alike, is_number, need
from nextbough.composites import operator_told
from nextbough.deeds import deed_told, need_deeds
from nextbough.shapekinds import need_shape
from nextbough.switches import Switch


def replayed(chip, text, room, deeds):
    """The switch on which the deeds were done, if they told what stands beside them."""
    need_journal(chip, text, room, deeds)
    switch = Switch(chip, text, room)
    for deed, _ in deeds:
        # A deed that raises what no switch notes is missing at the end.
        deed_told(switch, deed)
    need(alike(switch.deeds(), deeds), "deeds")
    return switch


def need_journal(chip, text, room, deeds):
    """Refuses the parameters unless they make a switch and are deeds on it; returns what the operator is."""
    need_shape(chip, "chip")
    operator = operator_told(text)
    need(is_number(room), "room")
    need_deeds(operator[0], deeds)
    return operator
