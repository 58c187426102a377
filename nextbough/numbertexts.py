"""Integers in texts, read up to the first sign that cannot follow.

A reader is given the text and the place where its part begins; it returns what it read, and where that ends.
It raises InvalidText with the place of the first sign by which nothing that it reads goes on.
"""

from nextbough.errors import InvalidText
from nextbough.exprtexts import is_figure


def read_below(text, at, bound):
    """The number below bound, greater than 9, that begins at the place."""
    if not is_figure(text[at:at + 1]):
        raise InvalidText(at)
    number = int(text[at])
    end = at + 1
    # A further figure makes a number greater, so what is too great stays so.
    while number > 0 and is_figure(text[end:end + 1]) and number * 10 + int(text[end]) < bound:
        number = number * 10 + int(text[end])
        end += 1
    return (number, end)


def read_within(text, at, bound):
    """The integer strictly between minus bound and bound that begins at the place."""
    if text[at:at + 1] != "-":
        return read_below(text, at, bound)
    if text[at + 1:at + 2] == "0":
        raise InvalidText(at + 1)
    number, end = read_below(text, at + 1, bound)
    return (-number, end)


def read_list(text, at, bound, most):
    """The integers, at least one and at most so many, with commas between; a bound of most None is none."""
    number, at = read_within(text, at, bound)
    numbers = [number]
    while text[at:at + 1] == "," and (most is None or len(numbers) < most):
        number, at = read_within(text, at + 1, bound)
        numbers.append(number)
    return (tuple(numbers), at)
