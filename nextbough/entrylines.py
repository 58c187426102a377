"""Putting entries into lines."""

from nextbough.checks import copied, need
from nextbough.rankkinds import is_line, is_rank


def put_place(line, rank):
    """How many entries of line have a rank that is not greater than rank."""
    need(is_line(line), "line")
    need(is_rank(rank), "rank")
    return place_behind(line, rank)


def put_entry(line, rank, item):
    """The line that comes when the entry (rank, item) is put into line."""
    need(is_line(line), "line")
    need(is_rank(rank), "rank")
    place = place_behind(line, rank)
    # Items may be lists, which the caller's line must not share with the new one.
    return copied(line[:place] + ((rank, item),) + line[place:])


def place_behind(line, rank):
    """How many entries of the line have a rank that is not greater; by halving, as ranks never fall."""
    low = 0
    high = len(line)
    while low < high:
        middle = (low + high) // 2
        if line[middle][0] <= rank:
            low = middle + 1
        else:
            high = middle
    return low
