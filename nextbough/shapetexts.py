"""The texts of shapes."""

from nextbough.checks import need
from nextbough.errors import InvalidText
from nextbough.shapekinds import MOST_CHILDREN, need_shape


def shape_text(form):
    """The text of form."""
    need_shape(form, "form")
    return text_of(form)


def text_of(form):
    """The text of the shape."""
    if not form:
        return "o"
    words = " ".join([text_of(kid) for kid in form])
    return f"({words})"


def read_shape(text):
    """The shape whose text is text."""
    need(isinstance(text, str), "text")
    # For each open bracket the children that stand in it and are followed by a space.
    begun = []
    # The shape that ends here; None where a shape has to begin.
    ended = None
    for at, sign in enumerate(text):
        if ended is None and sign == "o":
            ended = ()
        elif ended is None and sign == "(":
            begun.append([])
        elif ended is not None and begun and sign == ")":
            ended = tuple(begun.pop() + [ended])
        elif ended is not None and begun and sign == " " and len(begun[-1]) + 1 < MOST_CHILDREN:
            begun[-1].append(ended)
            ended = None
        else:
            raise InvalidText(at)
    if ended is None or begun:
        raise InvalidText(len(text))
    return ended
