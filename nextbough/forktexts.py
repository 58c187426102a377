"""Texts of forks within forks: those of disciplines and of operators.

What is read is a tuple (word, told, parts): told has the weights of a fork with turns, the pair of the name
of a place and where it stands for the word mount, and is () for others; parts are the children.
"""

from nextbough.errors import InvalidText
from nextbough.exprtexts import need_signs, word_end
from nextbough.factkinds import is_name
from nextbough.shapekinds import MOST_CHILDREN
from nextbough.textparts import need_end, read_below

FORK_WORDS = ("come", "due", "small", "strict", "turns")
PLACE_WORD = "mount"
LEAST_CHILDREN = 2
GREATEST_WEIGHT = 20


def read_whole(text, leaves):
    """The fork or leaf that the text is, leaves being the words of these."""
    part, end = read_part(text, 0, leaves)
    need_end(text, end)
    return part


def read_part(text, at, leaves):
    """The fork or leaf that begins at the place, and where it ends."""
    word, at = read_word(text, at, leaves + FORK_WORDS)
    if word == PLACE_WORD:
        need_signs(text, at, " ")
        name, end = read_name(text, at + 1)
        return ((word, (name, at + 1), ()), end)
    is_fork = word in FORK_WORDS and (word not in leaves or text[at:at + 1] == "(")
    if not is_fork:
        return ((word, (), ()), at)
    weights = ()
    if word == "turns":
        weights, at = read_weights(text, at)
    need_signs(text, at, "(")
    parts, at = read_parts(text, at + 1, leaves, len(weights))
    return ((word, weights, parts), at)


def read_word(text, at, words):
    """That one of the words which begins at the place, and where it ends."""
    furthest = at
    for word in words:
        end = at
        for sign in word:
            if text[end:end + 1] != sign:
                break
            end += 1
        if end == at + len(word):
            return (word, end)
        furthest = max(furthest, end)
    raise InvalidText(furthest)


def read_name(text, at):
    """The name that begins at the place, and where it ends."""
    end = word_end(text, at)
    name = text[at:end]
    if not is_name(name):
        # A word that is barred as a name is the beginning of a longer one.
        raise InvalidText(end)
    return (name, end)


def read_weights(text, at):
    """The weights that begin at the place, a colon ahead of each, and where they end."""
    weights = []
    while len(weights) < LEAST_CHILDREN or len(weights) < MOST_CHILDREN and text[at:at + 1] == ":":
        need_signs(text, at, ":")
        if text[at + 1:at + 2] == "0":
            raise InvalidText(at + 1)
        weight, at = read_below(text, at + 1, GREATEST_WEIGHT + 1)
        weights.append(weight)
    return (tuple(weights), at)


def read_parts(text, at, leaves, weights):
    """The children of a fork with so many weights, 0 if it has none, the bracket, and where it ends."""
    least = weights if weights > 0 else LEAST_CHILDREN
    most = weights if weights > 0 else MOST_CHILDREN
    part, at = read_part(text, at, leaves)
    parts = [part]
    while len(parts) < least or len(parts) < most and text[at:at + 1] == " ":
        need_signs(text, at, " ")
        part, at = read_part(text, at + 1, leaves)
        parts.append(part)
    need_signs(text, at, ")")
    return (tuple(parts), at + 1)


def form_told(part):
    """The shape of what is read."""
    return tuple([form_told(below) for below in part[2]])


def parts_in(part):
    """The list of what is read and all forks and leaves in it, in the sequence of the nodes."""
    found = [part]
    for below in part[2]:
        found.extend(parts_in(below))
    return found
