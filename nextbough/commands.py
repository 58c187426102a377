"""Texts of commands, done line by line."""

from nextbough.checks import need
from nextbough.commandwords import command_at
from nextbough.desks import Desk
from nextbough.errors import BoughError
from nextbough.shapecommands import SHAPE_ANSWERS
from nextbough.shows import show_value


def run_commands(text):
    """The answers of the commands in the lines of the text."""
    need(isinstance(text, str), "text")
    lines = text.split("\n") if text else []
    commands = [command_at(line, place) for place, line in enumerate(lines)]
    desk = Desk()
    answers = []
    for command in commands:
        answers.append(answer_of(desk, command[0], command[1:]))
    return tuple(answers)


def answer_of(desk, word, given):
    """The answer of the command with this word and these arguments."""
    try:
        if word in SHAPE_ANSWERS:
            action = SHAPE_ANSWERS[word]
            return action(given)
        return desk.answer(word, given)
    except BoughError as e:
        return show_value(e)
