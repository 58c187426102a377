"""Events that happen to a standing."""

from nextbough.checks import need
from nextbough.rankkinds import are_events
from nextbough.standings import Standing
from nextbough.trees import shape_tree


def play_events(form, events):
    """What departs in the events, which happen in an empty standing of form, and the standing at the end."""
    need(are_events(shape_tree(form, "form"), events), "events")
    standing = Standing(form)
    departed = []
    for event in events:
        if event[0] == "push":
            standing.push(event[1], event[2], event[3])
        else:
            departed.append(packet_gone(standing))
    return (tuple(departed), standing)


def packet_gone(standing):
    """The packet that departs from the standing now, or None."""
    gone = standing.depart()
    return None if gone is None else gone[0]
