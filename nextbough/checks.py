"""What all files share: telling integers from bools, refusing parameters, strict equality, copies."""

from nextbough.errors import NotUsable

# A packet's number is below this bound.
PACKET_BOUND = 1 << 60


def is_integer(thing):
    """Whether thing is an integer; a bool is none."""
    return isinstance(thing, int) and not isinstance(thing, bool)


def is_number(thing):
    """Whether thing is an integer of at least 0."""
    return is_integer(thing) and thing >= 0


def is_below(thing, bound):
    """Whether thing is a number below bound."""
    return is_number(thing) and thing < bound


def is_count(thing):
    """Whether thing is a number of at least 1."""
    return is_number(thing) and thing >= 1


def is_numbers(thing, many, bound):
    """Whether thing is a tuple of that many numbers below bound; a bound of None is none."""
    if not isinstance(thing, tuple) or len(thing) != many:
        return False
    for number in thing:
        if not is_number(number) or bound is not None and number >= bound:
            return False
    return True


def is_ascending(thing, least, bound):
    """Whether thing is an ascending tuple of at least so many numbers below bound."""
    if not isinstance(thing, tuple) or len(thing) < least:
        return False
    last = -1
    for number in thing:
        if not is_below(number, bound) or number <= last:
            return False
        last = number
    return True


def need(fits, word):
    """Refuses the parameter called word unless it fits."""
    if not fits:
        raise NotUsable(word, -1)


def alike(one, other):
    """Whether two values are equal, kind by kind: == would take True for 1."""
    if not isinstance(one, (tuple, list)):
        return type(one) is type(other) and one == other
    if not isinstance(other, (tuple, list)) or len(one) != len(other):
        return False
    return type(one) is type(other) and all([alike(left, right) for left, right in zip(one, other)])


def copied(thing):
    """The same value, with a new list for each list in it, so that nothing is shared that can change."""
    if isinstance(thing, list):
        return [copied(part) for part in thing]
    if isinstance(thing, tuple):
        return tuple([copied(part) for part in thing])
    return thing
