"""The numbers of layings, which are sorted by their images."""

from nextbough.checks import is_count, is_number, need
from nextbough.layingcounts import count_from, count_next
from nextbough.layingkinds import need_images
from nextbough.trees import plain_tree, shape_tree


def nth_laying(plain, chip, number):
    """The laying of this number."""
    tree = plain_tree(plain, "plain")
    board = shape_tree(chip, "chip")
    need(is_number(number) and number < count_from(tree, board, ()), "number")
    found = []
    add_layings(tree, board, (), number, 1, found)
    return found[0]


def number_of_laying(plain, chip, images):
    """The number of the laying."""
    tree = plain_tree(plain, "plain")
    board = shape_tree(chip, "chip")
    need_images(tree, board, images)
    number = 0
    for place, image in enumerate(images):
        number += sum(count_next(tree, board, images[:place])[:image])
    return number


def layings_from(plain, chip, number, many):
    """The first so many layings whose number is at least the given one."""
    tree = plain_tree(plain, "plain")
    board = shape_tree(chip, "chip")
    need(is_number(number), "number")
    need(is_count(many), "many")
    found = []
    add_layings(tree, board, (), number, many, found)
    return tuple(found)


def add_layings(tree, board, begun, passed, many, found):
    """Adds to found, up to so many in all, the layings that are begun so, without the first ones to be passed."""
    if len(begun) == len(tree.leaves):
        found.append(begun)
        return
    for queue, count in enumerate(count_next(tree, board, begun)):
        if len(found) == many:
            break
        if passed < count:
            add_layings(tree, board, begun + (queue,), passed, many, found)
        passed = max(0, passed - count)
