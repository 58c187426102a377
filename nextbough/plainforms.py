"""Plain forms: shapes without forks of just one child."""

from nextbough.shapekinds import need_shape
from nextbough.trees import shape_tree


def plain_form(form):
    """The plain form of form."""
    need_shape(form, "form")
    return plainly(form)


def plainly(form):
    """The plain form of the shape."""
    if len(form) == 1:
        return plainly(form[0])
    return tuple([plainly(kid) for kid in form])


def plain_nodes(form):
    """The nodes of form that are not forks with one child, ascending."""
    tree = shape_tree(form, "form")
    return tuple([node for node, kids in enumerate(tree.kids) if len(kids) != 1])
