"""The errors of the package: BoughError, its five families, and the errors that are raised."""


class BoughError(ValueError):
    """The base class of all errors of the package."""


class PaperError(BoughError):
    """The family of the errors that checkers raise."""


class ShapeError(BoughError):
    """The family of the errors about parameters, shapes, layings and standings."""


class PolicyError(BoughError):
    """The family of the errors about policies at work."""


class SwitchError(BoughError):
    """The family of the errors about the places of a switch."""


class TextError(BoughError):
    """The family of the errors about texts."""


class InvalidPaper(PaperError):
    """A checker does not accept what it was given: why, and where."""

    def __init__(self, word, at):
        self.word = word
        self.at = at


class NotUsable(ShapeError):
    """The parameter called word is not as stated."""

    def __init__(self, word, at):
        self.word = word
        self.at = at


class NoLaying(ShapeError):
    """There is no laying."""

    def __init__(self):
        # An own constructor, so that fields are refused.
        pass


class Unwritten(ShapeError):
    """A standing does not follow a plan; node is where."""

    def __init__(self, node):
        self.node = node


class NoGap(ShapeError):
    """No integer is between two neighbouring ranks of the line of node."""

    def __init__(self, node):
        self.node = node


class TooGreat(PolicyError):
    """What came up in an expression of name is not a worth."""

    def __init__(self, name):
        self.name = name


class NotMeltable(PolicyError):
    """A melt of this kind cannot be done at node."""

    def __init__(self, kind, node):
        self.kind = kind
        self.node = node


class Taken(SwitchError):
    """The place has a tenant."""

    def __init__(self, place):
        self.place = place


class Vacant(SwitchError):
    """The place has no tenant."""

    def __init__(self, place):
        self.place = place


class Busy(SwitchError):
    """A packet of the place is present."""

    def __init__(self, place):
        self.place = place


class FullRoom(SwitchError):
    """As many packets of the place are present as its room lets."""

    def __init__(self, place):
        self.place = place


class TooLittle(SwitchError):
    """Only so much room is left."""

    def __init__(self, room):
        self.room = room


class InvalidText(TextError):
    """A text is not of the stated form; at is where."""

    def __init__(self, at):
        self.at = at


class InvalidPolicy(TextError):
    """A text is no policy: in which line, and why."""

    def __init__(self, line, word):
        self.line = line
        self.word = word


class InvalidCommand(TextError):
    """A line is no command: which line, and why."""

    def __init__(self, line, word):
        self.line = line
        self.word = word
