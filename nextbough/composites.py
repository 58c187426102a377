"""Composites: the shape of an operator with shapes in its places."""

from nextbough.checks import need
from nextbough.errors import InvalidText, NotUsable
from nextbough.operators import read_operator
from nextbough.packing import fits_on
from nextbough.shapekinds import is_plain, many_nodes, need_shape
from nextbough.trees import ShapeTree


def composite_shape(text, shapes):
    """The operator's shape with each place's shape for its queue."""
    form = operator_told(text)[2]
    need_shapes(form, shapes)
    return composite_of(form, shapes)


def place_nodes(text, shapes):
    """For each place the node of the composite where its shape begins."""
    form = operator_told(text)[2]
    need_shapes(form, shapes)
    return nodes_of_places(form, shapes)


def can_mount(chip, text, shapes):
    """Whether the composite can be laid on the chip."""
    need_shape(chip, "chip")
    form = operator_told(text)[2]
    need_shapes(form, shapes)
    return fits_on(ShapeTree(composite_of(form, shapes)), ShapeTree(chip))


def operator_told(text):
    """What read_operator tells; text is refused unless it is that of an operator."""
    try:
        return read_operator(text)
    except InvalidText:
        raise NotUsable("text", -1) from None


def need_shapes(form, shapes):
    """Refuses shapes unless they are a tuple of a plain shape or None for each place of the operator's shape."""
    need(isinstance(shapes, tuple) and len(shapes) == len(ShapeTree(form).leaves), "shapes")
    need(all([shape is None or is_plain(shape) for shape in shapes]), "shapes")


def composite_of(form, shapes):
    """The bough of the operator with the shapes, a tuple with one for each of its places."""
    if not form:
        return () if shapes[0] is None else shapes[0]
    parts = []
    low = 0
    for kid in form:
        high = low + len(ShapeTree(kid).leaves)
        parts.append(composite_of(kid, shapes[low:high]))
        low = high
    return tuple(parts)


def nodes_of_places(form, shapes):
    """For each place of the operator's shape the node of the composite where its shape begins."""
    found = []
    node = 0
    for kids in ShapeTree(form).kids:
        if kids:
            node += 1
        else:
            shape = shapes[len(found)]
            found.append(node)
            node += 1 if shape is None else many_nodes(shape)
    return tuple(found)
