"""The texts of plans."""

from nextbough.checks import need
from nextbough.errors import InvalidText, NotUsable
from nextbough.plans import Plan, need_plan
from nextbough.shapetexts import text_of
from nextbough.textparts import behind, need_end, numbers_told, read_form, read_numbers


def plan_text(plan):
    """The text of the plan."""
    need_plan(plan, "plan")
    return f"{text_of(plan.tree.form)} on {text_of(plan.board.form)} by {numbers_told(plan.images)}"


def read_plan(text):
    """The plan whose text is text."""
    need(isinstance(text, str), "text")
    plain, at = read_form(text, 0)
    chip, at = read_form(text, behind(text, at, " on "))
    images, at = read_numbers(text, behind(text, at, " by "))
    need_end(text, at)
    try:
        return Plan(plain, chip, images)
    except NotUsable:
        raise InvalidText(len(text)) from None
