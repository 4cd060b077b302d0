"""The texts written of terms, and where in them their parts stand."""

from sharefold.namewords import word_of


class TermWriter:
    """Writes the text of a term, and notes the places (begin, end) of its nodes."""

    def __init__(self, term):
        self.pieces = []
        self.length = 0
        self.places = []
        self._write(term, 0)

    def text(self):
        return "".join(self.pieces)

    def _put(self, piece):
        self.pieces.append(piece)
        self.length += len(piece)

    def _write(self, term, around):
        """Write a term with so many functions around it."""
        node = len(self.places)
        begin = self.length
        self.places.append((begin, begin))
        if term[0] == "name":
            self._put(word_of(around - 1 - term[1]))
        elif term[0] == "letter":
            self._put(term[1])
        elif term[0] == "fun":
            self._put("\\" + word_of(around) + ".")
            self._write(term[1], around + 1)
        else:
            self._write_within(term[1], around, ("fun",))
            self._put(" ")
            self._write_within(term[2], around, ("fun", "call"))
        self.places[node] = (begin, self.length)

    def _write_within(self, term, around, bracketed):
        """Write a part of a call, with brackets around it if it is of one of these kinds."""
        if term[0] in bracketed:
            self._put("(")
            self._write(term, around)
            self._put(")")
        else:
            self._write(term, around)


def written(term):
    return TermWriter(term).text()
