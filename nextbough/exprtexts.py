"""The texts of expressions."""

from nextbough.checks import need
from nextbough.errors import InvalidText
from nextbough.exprtrees import DIVIDING, PARTS, is_read_name, need_tree
from nextbough.factkinds import FIGURES, LETTERS, MOST_SIGNS

MOST_FIGURES = 18
# How tightly an expression holds together: a sum, a product, anything else.
SUM = 0
PRODUCT = 1
FACTOR = 2


def read_expr(text):
    """The tree of the expression whose text is text."""
    need(isinstance(text, str), "text")
    tree, at = read_sum(text, 0)
    if at < len(text):
        raise InvalidText(at)
    return tree


def read_sum(text, at):
    """The tree of the EXPR that begins at the place, and where it ends."""
    whole = None
    joint = ""
    part, at = read_factor(text, at)
    while text[at:at + 1] == " ":
        sign = sign_between(text, at)
        factor, at = read_factor(text, at + 3)
        if sign == "*":
            part = ("*", part, factor)
        else:
            whole = part if whole is None else (joint, whole, part)
            joint = sign
            part = factor
    return (part if whole is None else (joint, whole, part), at)


def sign_between(text, at):
    """The sign that stands, with a space on either side, at the place."""
    if text[at + 1:at + 2] not in ("+", "-", "*"):
        raise InvalidText(at + 1)
    need_signs(text, at + 2, " ")
    return text[at + 1]


def need_signs(text, at, signs):
    """Refuses the text at the first place where it differs from the signs, which have to stand at the place."""
    for sign in signs:
        if text[at:at + 1] != sign:
            raise InvalidText(at)
        at += 1


def read_factor(text, at):
    """The tree of the FACTOR that begins at the place, and where it ends."""
    sign = text[at:at + 1]
    if sign == "(":
        tree, end = read_sum(text, at + 1)
        need_signs(text, end, ")")
        return (tree, end + 1)
    if sign == "-" or is_figure(sign):
        number, end = read_integer(text, at)
        return (("int", number), end)
    end = word_end(text, at)
    word = text[at:end]
    if word in PARTS and text[end:end + 1] == "(":
        return read_call(text, word, end + 1)
    if not is_read_name(word):
        # A word that is barred as a name is the beginning of a longer one.
        raise InvalidText(end)
    return (("name", word), end)


def word_end(text, at):
    """Where the word that begins at the place ends, as long as names may be."""
    end = at
    while end < at + MOST_SIGNS and is_word_sign(text[end:end + 1], end > at):
        end += 1
    return end


def is_word_sign(sign, is_behind):
    """Whether the sign may stand in a name, a figure only behind others."""
    return len(sign) == 1 and (sign in LETTERS or is_behind and sign in FIGURES)


def is_figure(sign):
    """Whether the sign is a figure."""
    return len(sign) == 1 and sign in FIGURES


def read_integer(text, at):
    """The INT that begins at the place, and where it ends."""
    start = at
    if text[at:at + 1] == "-":
        start = at + 1
    if not is_figure(text[start:start + 1]) or start > at and text[start] == "0":
        raise InvalidText(start)
    end = start + 1
    if text[start] != "0":
        while end < start + MOST_FIGURES and is_figure(text[end:end + 1]):
            end += 1
    return (int(text[at:end]), end)


def read_call(text, word, at):
    """The tree of a WORD with the arguments that begin at the place, and where it ends."""
    first, at = read_sum(text, at)
    parts = [first]
    while len(parts) < PARTS[word]:
        need_signs(text, at, ", ")
        part, at = read_sum(text, at + 2)
        parts.append(part)
    if word in DIVIDING:
        need_signs(text, at, ", ")
        if text[at + 2:at + 3] in ("-", "0"):
            raise InvalidText(at + 2)
        number, at = read_integer(text, at + 2)
        parts.append(number)
    need_signs(text, at, ")")
    return ((word,) + tuple(parts), at + 1)


def expr_text(tree):
    """The text of the expression."""
    need_tree(tree)
    return text_within(tree, SUM)


def text_within(tree, least):
    """The text of the expression, in brackets if it holds together less than so."""
    word = tree[0]
    if word in ("int", "name"):
        return str(tree[1])
    if word in ("+", "-", "*"):
        # Signs are read from the left, so what stands right of one has to hold together more.
        own = PRODUCT if word == "*" else SUM
        left = text_within(tree[1], own)
        right = text_within(tree[2], own + 1)
        text = f"{left} {word} {right}"
        return f"({text})" if own < least else text
    parts = [text_within(part, SUM) for part in tree[1:1 + PARTS[word]]]
    if word in DIVIDING:
        parts.append(str(tree[2]))
    inner = ", ".join(parts)
    return f"{word}({inner})"
