"""Defeats of keepers, and plays of the foe."""

from nextbough.checks import is_below, is_number
from nextbough.errors import InvalidPaper
from nextbough.foes import Foe
from nextbough.mimics import Mimic
from nextbough.playing import packet_gone
from nextbough.rankkinds import is_way
from nextbough.shapekinds import need_plain, need_shape
from nextbough.standings import Standing


def lets_defeat(plain, chip, defeat):
    """Checks whether the chip, by the answers of defeat, departs wrongly; how many departures come before."""
    need_plain(plain, "plain")
    need_shape(chip, "chip")
    if not isinstance(defeat, tuple) or len(defeat) != 4 or not isinstance(defeat[0], tuple):
        raise InvalidPaper("shape", -1)
    answers, behind, due, shown = defeat
    held = Standing(plain)
    chip_held = Standing(chip)
    for number, answer in enumerate(answers):
        check_answer(held.tree, chip_held.tree, number, answer)
        held.push(number, answer[0], answer[1])
        chip_held.push(number, answer[2], answer[3])
    if not is_below(behind, len(answers)):
        raise InvalidPaper("behind", -1)
    for _ in range(behind):
        if packet_gone(held) != packet_gone(chip_held):
            raise InvalidPaper("same", -1)
    if not is_packet(due, packet_gone(held)):
        raise InvalidPaper("due", -1)
    if not is_packet(shown, packet_gone(chip_held)) or shown == due:
        raise InvalidPaper("shown", -1)
    return behind


def check_answer(tree, board, number, answer):
    """Checks whether this is a push of plain with its answer."""
    if not isinstance(answer, tuple) or len(answer) != 4:
        raise InvalidPaper("answer", number)
    if not is_way(tree, answer[0], answer[1]):
        raise InvalidPaper("push", number)
    if not is_way(board, answer[2], answer[3]):
        raise InvalidPaper("way", number)


def is_packet(thing, packet):
    """Whether thing is the number of this packet."""
    return is_number(thing) and thing == packet


def play_foe(plain, chip, kind, choices):
    """How a foe of the chip's keepers for plain ends against a Mimic."""
    mimic = Mimic(plain, chip, kind, choices)
    foe = Foe(plain, chip)
    push = foe.next_push()
    while push is not None:
        queue, ranks = mimic.push(push[0], push[1], push[2])
        foe.answer(queue, ranks)
        push = foe.next_push()
    ended = foe.verdict()
    if ended[0] == "won":
        return ("won", (foe.answers(),) + ended[1:])
    return ended
