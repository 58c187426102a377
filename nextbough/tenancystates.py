"""States of tenancies on chips, as tuples."""

from nextbough.composites import composite_of
from nextbough.plans import Plan
from nextbough.standings import standing_with
from nextbough.tenancies import Tenant


def state_of(tenancy):
    """The state of a tenancy on a chip: its lines, tenants, packets, turns, and how many packets were taken."""
    lines = tenancy.lines
    held = (lines.chip, lines.plan.images, lines.held.all_lines())
    tenants = tuple([(place,) + tenant_state(tenant) for place, tenant in tenancy.tenants.items()])
    packets = tuple([(number, place, own) for number, (place, own) in tenancy.packets.items()])
    turns = tuple([tuple(keeps) for keeps in tenancy.forks.turns])
    return (held, tenants, packets, turns, tenancy.many)


def tenant_state(tenant):
    """The state of a tenant."""
    course = tenant.course
    keeps = tuple([(origin, tuple(worths.items())) for origin, worths in course.keeps.items()])
    counts = (course.many, tenant.refused, tenant.departed)
    return (tenant.text, tenant.room, tenant.lean, keeps, tuple(course.facts.items()), counts)


def put_state(tenancy, state):
    """Gives the state to a tenancy of the same operator and room that is new."""
    held, tenants, packets, turns, many = state
    for row in tenants:
        tenancy.tenants[row[0]] = tenant_of(row[1:])
    for number, place, own in packets:
        tenancy.packets[number] = (place, own)
    forks = tenancy.forks
    forks.turns = [list(keeps) for keeps in turns]
    tenancy.many = many
    chip, images, rows = held
    lines = tenancy.lines
    lines.chip = chip
    lines.plan = Plan(composite_of(tenancy.form, tenancy.shapes()), chip, images)
    lines.held = standing_with(chip, rows)


def tenant_of(state):
    """The tenant that has this state."""
    text, room, lean, keeps, facts, counts = state
    tenant = Tenant(text, room, lean)
    course = tenant.course
    course.keeps = {origin: {name: worth for name, worth in pairs} for origin, pairs in keeps}
    course.facts = {number: told for number, told in facts}
    course.many, tenant.refused, tenant.departed = counts
    return tenant
