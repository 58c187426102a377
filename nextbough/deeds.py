"""Deeds: calls of the methods that change a switch, as tuples of the method's name and its arguments."""

from nextbough.checks import is_number, need
from nextbough.errorparts import error_told
from nextbough.errors import BoughError, NotUsable
from nextbough.factkinds import is_facts
from nextbough.shapekinds import need_shape
from nextbough.tenants import need_lean, policy_told

# The parameters of each method.
METHODS = {
    "mount": ("place", "text", "room", "lean"),
    "unmount": ("place",),
    "exchange": ("place", "text"),
    "move_to": ("chip",),
    "arrive": ("place", "facts"),
    "depart": (),
}


def need_arguments(places, deed):
    """Refuses the first argument of the deed that is not as stated, these being the places."""
    for word, value in zip(METHODS[deed[0]], deed[1:]):
        need_argument(places, word, value)


def need_argument(places, word, value):
    """Refuses the parameter called word unless the value is as stated for it."""
    if word == "place":
        need_place(places, value)
    elif word == "text":
        policy_told(value)
    elif word == "room":
        need(is_number(value), "room")
    elif word == "lean":
        need_lean(value)
    elif word == "chip":
        need_shape(value, "chip")
    else:
        need(is_facts(value), "facts")


def need_place(places, place):
    """Refuses place unless it is one of the names of the places."""
    need(isinstance(place, str) and place in places, "place")


def need_deeds(places, deeds):
    """Refuses deeds unless they are a tuple of pairs, the first of each a deed with usable arguments."""
    need(isinstance(deeds, tuple), "deeds")
    for pair in deeds:
        need(isinstance(pair, tuple) and len(pair) == 2 and is_deed(places, pair[0]), "deeds")


def is_deed(places, thing):
    """Whether thing is a deed with usable arguments."""
    if not isinstance(thing, tuple) or len(thing) == 0 or not isinstance(thing[0], str) or thing[0] not in METHODS:
        return False
    if len(thing) != 1 + len(METHODS[thing[0]]):
        return False
    try:
        need_arguments(places, thing)
    except NotUsable:
        return False
    return True


def do_deed(run, deed):
    """Calls the method of the run, a switch or a tenancy; what it returns."""
    word = deed[0]
    rest = deed[1:]
    if word == "mount":
        return run.mount(*rest)
    if word == "unmount":
        return run.unmount(*rest)
    if word == "exchange":
        return run.exchange(*rest)
    if word == "move_to":
        return run.move_to(*rest)
    return run.arrive(*rest) if word == "arrive" else run.depart()


def deed_told(run, deed):
    """What the deed tells: what it returns, or the name and the fields of the error that it raises."""
    try:
        return do_deed(run, deed)
    except BoughError as e:
        return error_told(e)
