"""Plain shapes beside one another, and the images of each."""

from nextbough.checks import is_below, is_numbers, need
from nextbough.shapekinds import MOST_CHILDREN, many_queues, need_plains


def beside_of(plains):
    """The fork whose children are these shapes."""
    need_plains(plains, 2, MOST_CHILDREN)
    return plains


def part_images(plains, images, part):
    """The images of the queues of one of the shapes beside one another."""
    need_plains(plains, 2, MOST_CHILDREN)
    sizes = [many_queues(plain) for plain in plains]
    need(is_numbers(images, sum(sizes), None) and len(set(images)) == sum(sizes), "images")
    need(is_below(part, len(plains)), "part")
    low = sum(sizes[:part])
    return images[low:low + sizes[part]]
