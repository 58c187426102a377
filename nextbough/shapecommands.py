"""The answers of the commands that ask about shapes alone; each function is given the arguments of its command."""

from nextbough.comparing import compare_shapes
from nextbough.defeats import lets_defeat, play_foe
from nextbough.defeattexts import defeat_text
from nextbough.layingcounts import count_layings
from nextbough.layingnumbers import nth_laying
from nextbough.leastlayings import least_laying
from nextbough.packing import can_lay
from nextbough.plainforms import plain_form
from nextbough.shapetexts import shape_text
from nextbough.shows import show_value
from nextbough.tabletexts import table_text
from nextbough.textparts import numbers_told
from nextbough.turnings import turned_form
from nextbough.whynots import lets_why_not, why_not


def answer_plain(given):
    """The plain form of a shape."""
    return shape_text(plain_form(*given))


def answer_turned(given):
    """The turned form of a shape."""
    return shape_text(turned_form(*given))


def answer_compare(given):
    """Which of two shapes is stronger."""
    return compare_shapes(*given)


def answer_can(given):
    """Whether there is a laying."""
    return show_value(can_lay(*given))


def answer_count(given):
    """How many layings there are."""
    return show_value(count_layings(*given))


def answer_why(given):
    """Why there is no laying."""
    table = why_not(*given)
    return show_value(None) if table is None else table_text(table)


def answer_least(given):
    """The least laying and its cost."""
    return show_value(least_laying(*given))


def answer_nth(given):
    """The laying of a number."""
    return show_value(nth_laying(*given))


def answer_judge(given):
    """Whether a table tells why there is no laying."""
    return show_value(lets_why_not(*given))


def answer_defeat(given):
    """Whether a defeat is one."""
    return show_value(lets_defeat(*given))


def answer_foe(given):
    """How the foe ends against a keeper."""
    word, told = play_foe(*given)
    text = defeat_text(told) if word == "won" else numbers_told(told)
    return f"{word} {text}"


SHAPE_ANSWERS = {
    "plain": answer_plain,
    "turned": answer_turned,
    "compare": answer_compare,
    "can": answer_can,
    "count": answer_count,
    "why": answer_why,
    "least": answer_least,
    "nth": answer_nth,
    "judge": answer_judge,
    "defeat": answer_defeat,
    "foe": answer_foe,
}
