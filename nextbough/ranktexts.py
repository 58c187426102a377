"""The texts of ranks and of ways."""

from nextbough.checks import PACKET_BOUND, is_below, need
from nextbough.rankkinds import MOST_INTEGERS, is_rank
from nextbough.textparts import behind, need_end, numbers_told, read_packet, read_row, read_worth

NO_INTEGERS = "-"


def rank_text(rank):
    """The text of the rank."""
    need(is_rank(rank), "rank")
    return rank_told(rank)


def rank_told(rank):
    """What rank_text tells, the rank being one."""
    return numbers_told(rank) if rank else NO_INTEGERS


def read_rank(text):
    """The rank whose text is text."""
    need(isinstance(text, str), "text")
    rank, end = read_rank_part(text, 0)
    need_end(text, end)
    return rank


def read_rank_part(text, at):
    """The rank that begins at the place, and where it ends."""
    if text[at:at + 1] == NO_INTEGERS and text[at + 1:at + 2] not in ("1", "2", "3", "4", "5", "6", "7", "8", "9"):
        return ((), at + 1)
    return read_row(text, at, ",", read_worth, MOST_INTEGERS)


def way_text(queue, ranks):
    """The text of the way."""
    need(is_below(queue, PACKET_BOUND), "queue")
    need(are_some_ranks(ranks), "ranks")
    return way_told(queue, ranks)


def are_some_ranks(thing):
    """Whether thing is a tuple of at least one rank."""
    return isinstance(thing, tuple) and len(thing) > 0 and all([is_rank(rank) for rank in thing])


def way_told(queue, ranks):
    """What way_text tells, the parameters being as stated."""
    row = "/".join([rank_told(rank) for rank in ranks])
    return f"{queue}:{row}"


def read_way(text):
    """The queue and the ranks of the way whose text is text."""
    need(isinstance(text, str), "text")
    way, end = read_way_part(text, 0)
    need_end(text, end)
    return way


def read_way_part(text, at):
    """The way that begins at the place, and where it ends."""
    queue, at = read_packet(text, at)
    ranks, at = read_row(text, behind(text, at, ":"), "/", read_rank_part, None)
    return ((queue, ranks), at)
