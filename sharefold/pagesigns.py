"""The readers of texts of rows of nodes, and of pages."""

from sharefold.termshapes import GREATEST_NODE
from sharefold.termsigns import TermSigns
from sharefold.textchecks import is_figure

MOST_ITEMS = 200
# Where the reader of a row is behind the signs that are no figures.
ROW_MODES = {"[": "first", ",": "next", "]": "end"}


def goes_on(figures, sign):
    """Whether a sign behind figures tells a greater node, without a leading 0."""
    return is_figure(sign) and figures != "0" and int(figures + sign) <= GREATEST_NODE


class RowSigns:
    """The reader of a text of a row of nodes.

    Its mode is "begin" ahead of the first sign, "first" behind it, "next" where a node must come,
    "figures" within a node, "end" behind the last sign.
    """

    def __init__(self):
        self.mode = "begin"
        self.figures = ""
        self.nodes = []

    def takes(self, sign):
        if self.mode == "begin":
            return sign == "["
        if self.mode == "first":
            return sign == "]" or is_figure(sign)
        if self.mode == "next":
            return is_figure(sign)
        if self.mode == "end":
            return False
        if sign == ",":
            # The node whose figures are read is not among the others yet.
            return len(self.nodes) + 1 < MOST_ITEMS
        return sign == "]" or goes_on(self.figures, sign)

    def take(self, sign):
        if is_figure(sign):
            self.figures = self.figures + sign
            self.mode = "figures"
            return
        if self.mode == "figures":
            self.nodes.append(int(self.figures))
            self.figures = ""
        self.mode = ROW_MODES[sign]

    def is_whole(self):
        return self.mode == "end"


class PageSigns:
    """The reader of a page.

    Its mode is "term" within the text of a term, "line" where a line can begin, "figures" within
    a node, "blank" behind the sign that ends it. What it read are the nodes and the triples
    (term, size, height) of the lines; the first line has no node.
    """

    def __init__(self):
        self.mode = "term"
        self.figures = ""
        self.inner = TermSigns()
        self.nodes = []
        self.terms = []

    def takes(self, sign):
        if self.mode == "term":
            return self.inner.takes(sign) or (sign == "\n" and self.inner.is_whole())
        if self.mode == "line":
            return is_figure(sign) and len(self.nodes) < MOST_ITEMS
        if self.mode == "figures":
            return sign == ":" or goes_on(self.figures, sign)
        return sign == " "

    def take(self, sign):
        if self.mode == "term":
            self._take_in_term(sign)
        elif self.mode == "blank":
            self.inner = TermSigns()
            self.mode = "term"
        elif sign == ":":
            self.nodes.append(int(self.figures))
            self.figures = ""
            self.mode = "blank"
        else:
            self.figures = self.figures + sign
            self.mode = "figures"

    def _take_in_term(self, sign):
        if sign == "\n":
            self.terms.append(self.inner.ended())
            self.mode = "line"
        else:
            self.inner.take(sign)

    def is_whole(self):
        return self.mode == "line"
