"""How values are shown."""

from nextbough.checks import need
from nextbough.errorparts import error_fields
from nextbough.plans import Plan
from nextbough.plantexts import plan_text
from nextbough.standings import Standing
from nextbough.standingtexts import standing_text


def show_value(thing):
    """How thing is shown."""
    if thing is None:
        return "none"
    if type(thing) is bool:
        return "yes" if thing else "no"
    if type(thing) is int:
        return str(thing)
    if type(thing) is str:
        return thing.replace("\n", ";")
    if type(thing) is tuple:
        return f"({row_shown(thing)})"
    if type(thing) is list:
        return f"[{row_shown(thing)}]"
    if type(thing) is Standing:
        return standing_text(thing)
    if type(thing) is Plan:
        return plan_text(thing)
    fields = error_fields(thing)
    need(fields is not None, "thing")
    name = type(thing).__name__
    return f"{name}({row_shown(fields)})"


def row_shown(row):
    """How the elements are shown, without brackets."""
    return ", ".join([show_value(part) for part in row])
