"""The errors of texts."""

from sharefold.errors import ShareError


class InvalidText(ShareError):
    """A value is no string, or too long to be read as a text."""


class BadText(ShareError):
    """A text is refused at a place."""

    def __init__(self, place):
        ShareError.__init__(self, f"refused at {place}")
        self.place = place


class BadLine(ShareError):
    """A line of a page does not tell the step that it should."""

    def __init__(self, index):
        ShareError.__init__(self, f"line {index} is wrong")
        self.index = index


class NotWritable(ShareError):
    """A value has no text."""
