"""The texts of defeats."""

from nextbough.checks import PACKET_BOUND, is_below, is_numbers, need
from nextbough.ranktexts import are_some_ranks, read_way_part, way_told
from nextbough.textparts import behind, need_end, read_packet


def defeat_text(defeat):
    """The text of the defeat."""
    need(is_defeat(defeat), "defeat")
    answers, passed, due, shown = defeat
    rows = " ".join([f"{way_told(row[0], row[1])}>{way_told(row[2], row[3])}" for row in answers])
    return f"{rows} at {passed} due {due} shown {shown}"


def is_defeat(thing):
    """Whether thing is a tuple of at least one answer, and three numbers."""
    if not isinstance(thing, tuple) or not is_numbers(thing[1:], 3, PACKET_BOUND):
        return False
    answers = thing[0]
    return isinstance(answers, tuple) and len(answers) > 0 and all([is_answer(answer) for answer in answers])


def is_answer(thing):
    """Whether thing is two queues, each with ranks."""
    if not isinstance(thing, tuple) or len(thing) != 4:
        return False
    if not is_below(thing[0], PACKET_BOUND) or not is_below(thing[2], PACKET_BOUND):
        return False
    return are_some_ranks(thing[1]) and are_some_ranks(thing[3])


def read_defeat(text):
    """The defeat whose text is text."""
    need(isinstance(text, str), "text")
    answer, at = read_answer(text, 0)
    answers = [answer]
    # Behind an answer comes a further one, or at.
    while text[at:at + 1] == " " and text[at + 1:at + 2] != "a":
        answer, at = read_answer(text, at + 1)
        answers.append(answer)
    passed, at = read_packet(text, behind(text, at, " at "))
    due, at = read_packet(text, behind(text, at, " due "))
    shown, at = read_packet(text, behind(text, at, " shown "))
    need_end(text, at)
    return (tuple(answers), passed, due, shown)


def read_answer(text, at):
    """The answer that begins at the place, and where it ends."""
    way, at = read_way_part(text, at)
    chip_way, at = read_way_part(text, behind(text, at, ">"))
    return (way + chip_way, at)
