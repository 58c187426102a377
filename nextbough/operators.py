"""Operators: trees with a place for a tenant at each queue."""

from nextbough.checks import need
from nextbough.errors import InvalidText
from nextbough.forktexts import PLACE_WORD, form_told, parts_in, read_whole


def read_operator(text):
    """The names of the places, the words and weights of the forks, and the shape, of the operator."""
    need(isinstance(text, str), "text")
    whole = read_whole(text, (PLACE_WORD,))
    places = []
    kinds = []
    for word, told, _ in parts_in(whole):
        if word != PLACE_WORD:
            kinds.append((word, told))
            continue
        name, at = told
        if name in places:
            raise InvalidText(at)
        places.append(name)
    return (tuple(places), tuple(kinds), form_told(whole))
