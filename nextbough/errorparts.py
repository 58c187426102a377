"""The fields of the errors."""

from nextbough.errors import (
    Busy, FullRoom, InvalidCommand, InvalidPaper, InvalidPolicy, InvalidText, NoGap, NoLaying, NotMeltable, NotUsable,
    Taken, TooGreat, TooLittle, Unwritten, Vacant,
)


def error_fields(thing):
    """The fields of an error, in sequence, or None if thing is none, or one of the families."""
    if type(thing) is NoLaying:
        return ()
    if type(thing) is InvalidPaper or type(thing) is NotUsable:
        return (thing.word, thing.at)
    if type(thing) is InvalidPolicy or type(thing) is InvalidCommand:
        return (thing.line, thing.word)
    if type(thing) is Unwritten or type(thing) is NoGap:
        return (thing.node,)
    if type(thing) is Taken or type(thing) is Vacant or type(thing) is Busy or type(thing) is FullRoom:
        return (thing.place,)
    if type(thing) is TooGreat:
        return (thing.name,)
    if type(thing) is NotMeltable:
        return (thing.kind, thing.node)
    if type(thing) is TooLittle:
        return (thing.room,)
    return (thing.at,) if type(thing) is InvalidText else None


def error_told(error):
    """The name of an error and then its fields."""
    return (type(error).__name__,) + error_fields(error)
