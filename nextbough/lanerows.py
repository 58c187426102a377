"""How many lanes serve a line, and rows of entries that fewer do not serve."""

from nextbough.checks import is_count, need

LANE_KINDS = ("queue", "free", "fixed")


def least_lanes(kind, many, children):
    """The least number of lanes that serve a line of this kind."""
    need(isinstance(kind, str) and kind in LANE_KINDS, "kind")
    need(is_count(many), "many")
    need(is_count(children), "children")
    if kind == "free":
        return min(many, children)
    return 1 if kind == "fixed" and children == 1 else many


def lane_row(kind, many, children):
    """Entries that need so many lanes when they are put one by one."""
    lanes = least_lanes(kind, many, children)
    items = [place & 1 if kind == "fixed" else place for place in range(lanes)]
    return tuple([((lanes - 1 - place,), item) for place, item in enumerate(items)])
