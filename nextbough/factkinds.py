"""What is a name, a worth, and what are the facts of a packet."""

from nextbough.checks import is_below, is_integer

LETTERS = "abcdefghijklmnopqrstuvwxyz"
FIGURES = "0123456789"
MOST_SIGNS = 12
WORTH_BOUND = 1 << 200
STAMP_BOUND = 1 << 60
CLASS_BOUND = 100
GREATEST_SIZE = 1000000
MOST_FIELDS = 8
# What an expression tells of a packet; only an out has the rank, too.
FACT_NAMES = ("class", "size", "stamp", "number")
FIELD_NAMES = ("f0", "f1", "f2", "f3", "f4", "f5", "f6", "f7")
BARRED = (
    "root", "tree", "at", "keep", "in", "out", "let", "set", "rank", "max", "min", "if", "less", "same", "part",
    "rest", "o",
)


def is_name(thing):
    """Whether thing is a name."""
    if not isinstance(thing, str) or not 1 <= len(thing) <= MOST_SIGNS:
        return False
    return thing[0] in LETTERS and is_word(thing) and thing not in BARRED and not is_fact_name(thing)


def is_fact_name(text):
    """Whether the text is the name of something that each packet has."""
    return text in FACT_NAMES or text in FIELD_NAMES


def is_word(text):
    """Whether the text has small letters and figures alone."""
    return all([sign in LETTERS or sign in FIGURES for sign in text])


def is_worth(thing):
    """Whether thing is a worth."""
    return is_integer(thing) and -WORTH_BOUND < thing < WORTH_BOUND


def is_facts(thing):
    """Whether thing is the facts of a packet."""
    if not isinstance(thing, tuple) or len(thing) != 4:
        return False
    kind, size, stamp, fields = thing
    if not is_below(kind, CLASS_BOUND) or not is_integer(size) or not 1 <= size <= GREATEST_SIZE:
        return False
    if not is_integer(stamp) or not -STAMP_BOUND < stamp < STAMP_BOUND:
        return False
    return isinstance(fields, tuple) and len(fields) <= MOST_FIELDS and all([is_worth(field) for field in fields])
