"""The errors of all parts, but for those of texts."""


class ShareError(ValueError):
    """The base class of all errors of this package."""


class InvalidTerm(ShareError):
    """A value is no term."""


class InvalidNode(ShareError):
    """A value is no node of a term, or none of the kind that is asked for."""


class NotRedex(ShareError):
    """A node is no redex."""


class InvalidWay(ShareError):
    """A value is no way."""


class InvalidNumber(ShareError):
    """A value is no integer, or none within its bounds."""


class TooMany(ShareError):
    """Something would be more, or greater, than its limit."""

    def __init__(self, limit):
        ShareError.__init__(self, f"more than {limit}")
        self.limit = limit


class InvalidBook(ShareError):
    """A value is no book."""


class InvalidWord(ShareError):
    """A value is no word over a book, or no index of one."""


class InvalidFold(ShareError):
    """A value is no fold."""


class InvalidFamily(ShareError):
    """A value is no family of a redex."""


class InvalidNet(ShareError):
    """A value is no net, or no raw net."""


class InvalidEdge(ShareError):
    """A value is no live edge of a net."""


class InvalidContext(ShareError):
    """A value is no context."""


class InvalidEnd(ShareError):
    """A value is no end of a node of a net."""


class NotRead(ShareError):
    """The reading of a net is stuck at an end."""

    def __init__(self, end):
        ShareError.__init__(self, f"the reading is stuck at {end}")
        self.end = end


class InvalidLot(ShareError):
    """A value is no lot."""


class InvalidRun(ShareError):
    """A value is no run."""


class InvalidNumbers(ShareError):
    """A value is no tuple of numbers by which a run is told."""


class InvalidType(ShareError):
    """A value is no type."""


class InvalidTyping(ShareError):
    """A value is no typing, or no tuple of types."""


class InvalidFillings(ShareError):
    """A value is no tuple of fillings."""


class NoTypes(ShareError):
    """A term has no typing."""


class NotAffine(ShareError):
    """A term is not affine."""


class InvalidProgram(ShareError):
    """A value is no program."""


class InvalidPatterns(ShareError):
    """A value is no tuple of patterns."""


class InvalidValue(ShareError):
    """A value is no value of kinds, or does not go with the patterns."""


class InvalidHand(ShareError):
    """A value is no hand of a run."""


class InvalidSchedule(ShareError):
    """A value is no tuple of hands."""
