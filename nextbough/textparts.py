"""Parts of texts: integers, shapes, rows of parts, read up to the first sign that cannot follow.

A reader is given the text and the place where its part begins; it returns what it read, and where that ends.
It raises InvalidText with the place of the first sign by which nothing that it reads goes on.
"""

from nextbough.checks import PACKET_BOUND
from nextbough.errors import InvalidText
from nextbough.exprtexts import is_figure, need_signs
from nextbough.factkinds import WORTH_BOUND
from nextbough.shapetexts import read_shape


def need_end(text, at):
    """Refuses the text unless it ends at the place."""
    if at < len(text):
        raise InvalidText(at)


def behind(text, at, signs):
    """Where the signs end that have to stand at the place."""
    need_signs(text, at, signs)
    return at + len(signs)


def read_below(text, at, bound):
    """The number below bound, which is greater than 9, that begins at the place."""
    if not is_figure(text[at:at + 1]):
        raise InvalidText(at)
    number = int(text[at])
    end = at + 1
    # A further figure makes a number greater, so what is too great stays so.
    while number > 0 and is_figure(text[end:end + 1]) and number * 10 + int(text[end]) < bound:
        number = number * 10 + int(text[end])
        end += 1
    return (number, end)


def read_packet(text, at):
    """The number below 2 ** 60 that begins at the place."""
    return read_below(text, at, PACKET_BOUND)


def read_worth(text, at):
    """The worth that begins at the place."""
    if text[at:at + 1] != "-":
        return read_below(text, at, WORTH_BOUND)
    if text[at + 1:at + 2] == "0":
        raise InvalidText(at + 1)
    number, end = read_below(text, at + 1, WORTH_BOUND)
    return (-number, end)


def read_row(text, at, sign, reader, most):
    """At least one and at most so many parts of the reader, with the sign between; a bound of None is none."""
    part, at = reader(text, at)
    row = [part]
    while text[at:at + 1] == sign and (most is None or len(row) < most):
        part, at = reader(text, at + 1)
        row.append(part)
    return (tuple(row), at)


def read_numbers(text, at):
    """The numbers, with commas between, that begin at the place."""
    return read_row(text, at, ",", read_packet, None)


def numbers_told(numbers):
    """The text of the numbers, with commas between."""
    return ",".join([str(number) for number in numbers])


def read_form(text, at):
    """The shape that begins at the place."""
    end = form_end(text, at)
    try:
        return (read_shape(text[at:end]), end)
    except InvalidText as e:
        raise InvalidText(at + e.at) from None


def form_end(text, at):
    """Where the shape ends that begins at the place, if its brackets are right."""
    depth = 0
    for place in range(at, len(text)):
        if text[place] == "(":
            depth += 1
        elif text[place] == ")":
            depth -= 1
        if depth <= 0:
            return place + 1
    return len(text)
