"""Turned forms: shapes whose children are sorted."""

from nextbough.shapekinds import need_shape


def turned_form(form):
    """The turned form of form."""
    need_shape(form, "form")
    return turned_row(form)[2]


def are_turns(one, other):
    """Whether the two shapes have the same turned form."""
    need_shape(one, "one")
    need_shape(other, "other")
    return turned_row(one)[2] == turned_row(other)[2]


def turned_row(form):
    """The number of queues, the text, and the shape of the turned form of the shape."""
    if not form:
        return (1, "o", ())
    rows = sorted([turned_row(kid) for kid in form], key=lambda row: (row[0], row[1]))
    words = " ".join([row[1] for row in rows])
    return (sum([row[0] for row in rows]), f"({words})", tuple([row[2] for row in rows]))
