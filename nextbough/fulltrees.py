"""Full trees, and the shapes that carry all plain shapes of so many queues."""

from nextbough.checks import is_count, is_integer, is_number, need
from nextbough.shapekinds import MOST_CHILDREN, need_plain

LEAST_WIDTH = 2


def is_width(thing):
    """Whether thing is a width."""
    return is_integer(thing) and LEAST_WIDTH <= thing <= MOST_CHILDREN


def full_tree(width, height):
    """The full tree of this width and height."""
    need(is_width(width), "width")
    need(is_number(height), "height")
    form = ()
    for _ in range(height):
        form = (form,) * width
    return form


def height_for(plain, width):
    """The least height of a full tree of this width on which plain can be laid."""
    need_plain(plain, "plain")
    need(is_width(width), "width")
    return height_of(plain, width)


def height_of(plain, width):
    """What height_for tells, the parameters being as stated."""
    if not plain:
        return 0
    needed = sum([power(width, height_of(kid, width)) for kid in plain])
    height = 0
    while power(width, height) < needed:
        height += 1
    return height


def power(base, exponent):
    """Base to the power of the exponent."""
    result = 1
    for _ in range(exponent):
        result = result * base
    return result


def least_full(plain):
    """The width and the height of the full tree with the fewest queues on which plain can be laid."""
    need_plain(plain, "plain")
    best = None
    for width in range(LEAST_WIDTH, MOST_CHILDREN + 1):
        height = height_of(plain, width)
        if best is None or power(width, height) < power(best[0], best[1]):
            best = (width, height)
    return best


def all_carrying(many):
    """A shape on which each plain shape of at most so many queues can be laid."""
    need(is_count(many), "many")
    forms = [(), ()]
    for size in range(2, many + 1):
        forms.append((forms[size - 1], forms[size // 2]))
    return forms[many]


def queues_of_all(many):
    """How many queues the shape of all_carrying has."""
    need(is_count(many), "many")
    sizes = [1, 1]
    for size in range(2, many + 1):
        sizes.append(sizes[size - 1] + sizes[size // 2])
    return sizes[many]
