"""Which of two shapes can do more."""

from nextbough.packing import fits_on
from nextbough.plainforms import plainly
from nextbough.shapekinds import need_shape
from nextbough.trees import ShapeTree


def compare_shapes(one, other):
    """Whether the shapes are alike, or one is stronger or weaker, or they are apart."""
    need_shape(one, "one")
    need_shape(other, "other")
    left = ShapeTree(plainly(one))
    right = ShapeTree(plainly(other))
    if fits_on(right, left):
        return "alike" if fits_on(left, right) else "stronger"
    return "weaker" if fits_on(left, right) else "apart"
