"""The reader of texts of types."""

from sharefold.namewords import number_of
from sharefold.textchecks import is_small

MOST_BRACKETS = 60
MOST_LETTERS = 2


def joined(parts):
    """The triple (type, size, height) of parts that are such triples, with arrows between."""
    last, size, height = parts[-1]
    for own, more, other in parts[:-1][::-1]:
        last, size, height = ("to", own, last), more + size + 1, max(other, height) + 1
    return last, size, height


class TypeSigns:
    """The reader of a text of a type.

    Its mode is "part" where a part must come, "word" within the word of an open type, "more"
    behind a bracket that is closed. What stands in each bracket that is open, and outside of all,
    is a list of parts, so that types of any height are measured without being gone through.
    """

    def __init__(self):
        self.mode = "part"
        self.word = ""
        self.rows = [[]]

    def takes(self, sign):
        if self.mode == "part":
            return is_small(sign) or (sign == "(" and len(self.rows) <= MOST_BRACKETS)
        if is_small(sign):
            return self.mode == "word" and len(self.word) < MOST_LETTERS
        return sign == ">" or (sign == ")" and len(self.rows) > 1)

    def take(self, sign):
        if is_small(sign):
            self.word = self.word + sign
            self.mode = "word"
            return
        if self.mode == "word":
            self._end_word()
        if sign == "(":
            self.rows.append([])
            self.mode = "part"
        elif sign == ">":
            self.mode = "part"
        else:
            closed = self.rows.pop()
            self.rows[-1].append(joined(closed))
            self.mode = "more"

    def _end_word(self):
        self.rows[-1].append((("open", number_of(self.word)), 1, 1))
        self.word = ""

    def is_whole(self):
        return self.mode != "part" and len(self.rows) == 1

    def ended(self):
        """The triple (type, size, height) of what was read, which must be whole."""
        if self.mode == "word":
            self._end_word()
        return joined(self.rows[0])
