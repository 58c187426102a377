"""Deeds of switches, done on the composite's own tree."""

from nextbough.checks import need
from nextbough.compositelines import TreeLines
from nextbough.deeds import deed_told
from nextbough.journals import need_journal
from nextbough.standings import need_standing_of
from nextbough.switches import Switch
from nextbough.tenancies import Tenancy
from nextbough.writing import written


def plain_run(chip, text, room, deeds):
    """What each of the deeds tells, and the composite's standing at the end."""
    operator = need_journal(chip, text, room, deeds)
    tenancy = Tenancy(operator, room, TreeLines(operator[2], chip))
    told = []
    for deed, _ in deeds:
        told.append(deed_told(tenancy, deed))
    return (tuple(told), tenancy.lines.composite())


def audit_of(switch, standing):
    """The least node where the standing of the chip is not as the deeds of the switch make it, or None."""
    need(isinstance(switch, Switch), "switch")
    plan = switch.tenancy.lines.plan
    need_standing_of(standing, plan.board.form, "standing")
    chip, text, room = switch.made
    composite = plain_run(chip, text, room, switch.deeds())[1]
    due = written(plan, composite)
    for node, line in enumerate(due.lines):
        if standing.lines[node] != line:
            return node
    return None
