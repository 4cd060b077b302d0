"""The reader of texts of terms."""

from sharefold.textchecks import is_small

MOST_DEPTH = 60
MOST_LETTERS = 4
TERM_SIGNS = " $().ABCDEFGHIJKLMNOPQRSTUVWXYZ\\abcdefghijklmnopqrstuvwxyz"

# The term of \f.(\x.f (x x)) (\x.f (x x)), with its size and its height.
LOOP = (
    ("fun", ("call",
             ("fun", ("call", ("name", 1), ("call", ("name", 0), ("name", 0)))),
             ("fun", ("call", ("name", 1), ("call", ("name", 0), ("name", 0)))))),
    14, 6)


def called(function, argument):
    """The call of two triples (term, size, height)."""
    return (("call", function[0], argument[0]), function[1] + argument[1] + 1, max(function[2], argument[2]) + 1)


class Frame:
    """A bracket or a function that is read, or the whole text, and what is read in it so far.

    What is read is a triple (term, size, height), so that terms of any height are measured
    without being gone through.
    """

    def __init__(self, opening):
        self.opening = opening
        self.word = ""
        self.read = None

    def put(self, part):
        self.read = part if self.read is None else called(self.read, part)

    def as_part(self):
        """What is read as a part of what stands around."""
        if self.opening == "(":
            return self.read
        term, size, height = self.read
        fun = (("fun", term), size + 1, height + 1)
        return called(LOOP, fun) if self.opening == "$" else fun


class TermSigns:
    """The reader of a text of a term.

    Its mode tells where it is: "part" where a part must come, "more" behind a part, "name" within
    a word that is a part, "head" behind the sign of a function, "bound" within the function's
    word, "dot" behind this word and a blank.
    """

    def __init__(self):
        self.mode = "part"
        self.word = ""
        self.frames = [Frame("")]

    def takes(self, sign):
        if self.mode == "head":
            return sign == " " or is_small(sign)
        if self.mode == "bound":
            return sign == " " or sign == "." or (is_small(sign) and len(self.word) < MOST_LETTERS)
        if self.mode == "dot":
            return sign == " " or sign == "."
        if self.mode == "name":
            if is_small(sign):
                return self._begins_name(self.word + sign)
            return self._has_function(self.word) and self._takes_behind(sign)
        if self.mode == "more":
            return self._takes_behind(sign)
        return self._takes_part(sign)

    def _takes_behind(self, sign):
        if sign == ")":
            return self._has_bracket()
        return self._takes_part(sign)

    def _takes_part(self, sign):
        """Whether a blank, or the first sign of a part, can stand here."""
        if sign in ("(", "\\", "$"):
            return len(self.frames) <= MOST_DEPTH
        if is_small(sign):
            return self._begins_name(sign)
        return sign == " " or "A" <= sign <= "Z"

    def _has_bracket(self):
        return any([frame.opening == "(" for frame in self.frames])

    def _has_function(self, word):
        return any([frame.word == word for frame in self.frames])

    def _begins_name(self, word):
        return any([frame.word.startswith(word) for frame in self.frames])

    def take(self, sign):
        if is_small(sign):
            self._take_small(sign)
            return
        if self.mode == "name":
            self._end_name()
        if sign == " ":
            if self.mode == "bound":
                self.mode = "dot"
        elif sign == ".":
            self.frames[-1].word = self.word
            self.mode = "part"
        elif sign == ")":
            self._close()
            self.mode = "more"
        elif "A" <= sign <= "Z":
            self.frames[-1].put((("letter", sign), 1, 1))
            self.mode = "more"
        else:
            self.frames.append(Frame(sign))
            self.mode = "part" if sign == "(" else "head"

    def _take_small(self, sign):
        if self.mode == "name" or self.mode == "bound":
            self.word = self.word + sign
        else:
            self.word = sign
            self.mode = "bound" if self.mode == "head" else "name"

    def _end_name(self):
        words = [frame.word for frame in self.frames[::-1] if frame.word]
        self.frames[-1].put((("name", words.index(self.word)), 1, 1))
        self.mode = "more"

    def _close(self):
        """Close the innermost bracket, and the functions in it."""
        while self.frames[-1].opening != "(":
            self._close_frame()
        self._close_frame()

    def _close_frame(self):
        frame = self.frames.pop()
        self.frames[-1].put(frame.as_part())

    def is_whole(self):
        if self.mode == "name":
            return self._has_function(self.word) and not self._has_bracket()
        return self.mode == "more" and not self._has_bracket()

    def ended(self):
        """The triple (term, size, height) of what was read, which must be whole."""
        if self.mode == "name":
            self._end_name()
        while len(self.frames) > 1:
            self._close_frame()
        return self.frames[0].read
