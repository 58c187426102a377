"""What of a chip can be spared while some shapes can still be laid on it."""

from nextbough.cutting import contracted, struck
from nextbough.errors import NoLaying, NotUsable
from nextbough.packing import fits_on
from nextbough.plainforms import plainly
from nextbough.shapekinds import need_plains, need_shape
from nextbough.shapetexts import text_of
from nextbough.trees import ShapeTree, forks_in


def spared_chip(chip, plains):
    """The shape left when deed after deed is done, the deeds, and what bars each further one."""
    need_shape(chip, "chip")
    need_plains(plains, 1, None)
    trees = [ShapeTree(plain) for plain in plains]
    known = {}
    if first_barred(trees, chip, known) is not None:
        raise NoLaying()
    left = chip
    done = []
    deed, given, bars = next_deed(trees, left, known)
    while deed is not None:
        left = given
        done.append(deed)
        deed, given, bars = next_deed(trees, left, known)
    return (left, tuple(done), bars)


def next_deed(trees, form, known):
    """The first deed of form that can be done, what it gives, and what bars each deed if none can be done."""
    bars = []
    for deed, given in deeds_of(form):
        place = first_barred(trees, given, known)
        if place is None:
            return (deed, given, ())
        bars.append((deed, place))
    return (None, None, tuple(bars))


def deeds_of(form):
    """The deeds of form, in their sequence, each with what it gives."""
    tree = ShapeTree(form)
    many = len(tree.leaves)
    rows = []
    if many > 1:
        rows = [(("strike", queue), struck(form, queue)) for queue in reversed(range(many))]
    for fork in reversed(forks_in(tree)):
        given = contraction(form, fork)
        if given is not None:
            rows.append((("contract", fork), given))
    return rows


def contraction(form, fork):
    """What the contraction of the fork gives, or None if it cannot be done."""
    try:
        return contracted(form, fork)
    except NotUsable:
        return None


def first_barred(trees, form, known):
    """The place of the first of the trees that cannot be laid on form, or None.

    What can be laid on a chip is what can be laid on its plain form; known keeps what came out, by its text.
    """
    plain = plainly(form)
    text = text_of(plain)
    if text not in known:
        board = ShapeTree(plain)
        barred = [place for place, tree in enumerate(trees) if not can_carry(board, tree)]
        known[text] = barred[0] if barred else None
    return known[text]


def can_carry(board, tree):
    """Whether the tree's shape can be laid on the board's."""
    return len(tree.leaves) <= len(board.leaves) and fits_on(tree, board)
