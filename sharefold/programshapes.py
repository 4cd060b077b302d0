"""What programs, patterns and values of kinds are."""

MOST_SIGNS = 8
MOST_PARTS = 4
MOST_ROWS = 8
MOST_KINDS = 12
MOST_LEVELS = 20
MOST_OWN = 120


def is_sign_row(value, least, greatest):
    """Whether any value is a string that begins with such a character, with lower ones and figures behind it."""
    if not isinstance(value, str) or len(value) < 1 or len(value) > MOST_SIGNS:
        return False
    return least <= value[0] <= greatest and all(["a" <= sign <= "z" or "0" <= sign <= "9" for sign in value[1:]])


def is_word(value):
    return is_sign_row(value, "a", "z")


def is_kind(value):
    return is_sign_row(value, "A", "Z")


def is_form(value, word, many):
    """Whether any value is a tuple of so many items, the first one a word."""
    return isinstance(value, tuple) and len(value) == many and value[0] == word


class Survey:
    """A look through programs, patterns and values, with all kinds that stand in them."""

    def __init__(self):
        self.kinds = {}
        self.many = 0

    def _come(self, level):
        """Count what is come to; return whether it is not too deep."""
        self.many += 1
        return level <= MOST_LEVELS

    def _made(self, value):
        """The parts of what is made of a kind, None if a value is not of this form."""
        if not is_form(value, "make", 3) or not is_kind(value[1]) or not isinstance(value[2], tuple):
            return None
        many = len(value[2])
        if many > MOST_PARTS or self.kinds.setdefault(value[1], many) != many or len(self.kinds) > MOST_KINDS:
            return None
        return value[2]

    def is_value(self, value):
        """Whether any value is a value of kinds."""
        waiting = [(value, 1)]
        while waiting:
            own, level = waiting.pop()
            parts = self._made(own)
            if parts is None or not self._come(level):
                return False
            waiting.extend([(part, level + 1) for part in parts])
        return True

    def pattern_words(self, value, level):
        """The words of a pattern at a level, by a dict; None if a value is no pattern."""
        words = {}
        waiting = [(value, level)]
        while waiting:
            own, level = waiting.pop()
            if not self._come(level):
                return None
            if is_form(own, "word", 2) and is_word(own[1]) and own[1] not in words:
                words[own[1]] = True
            elif not is_form(own, "any", 1):
                parts = self._made(own)
                if parts is None:
                    return None
                waiting.extend([(part, level + 1) for part in parts])
        return words

    def are_patterns(self, value):
        """Whether any value is a tuple of patterns, neither none nor too many."""
        if not isinstance(value, tuple) or len(value) < 1 or len(value) > MOST_ROWS:
            return False
        return all([self.pattern_words(pattern, 1) is not None for pattern in value])

    def is_program(self, value):
        """Whether any value is a program."""
        waiting = [(value, 1, {})]
        while waiting:
            own, level, bound = waiting.pop()
            inner = self._below(own, level, bound) if self._come(level) else None
            if inner is None or self.many > MOST_OWN:
                return False
            waiting.extend([(part, level + 1, words) for part, words in inner])
        return True

    def _below(self, own, level, bound):
        """The list of the expressions in one, with the words bound there; None if a value is no expression."""
        if is_form(own, "word", 2):
            return [] if is_word(own[1]) and own[1] in bound else None
        if is_form(own, "fun", 3):
            return [(own[2], {**bound, own[1]: True})] if is_word(own[1]) else None
        if is_form(own, "call", 3):
            return [(part, bound) for part in own[1:]]
        if is_form(own, "let", 4):
            return [(part, {**bound, own[1]: True}) for part in own[2:]] if is_word(own[1]) else None
        if is_form(own, "par", 3):
            return [(own[2], bound)] if is_word(own[1]) and own[1] in bound else None
        if is_form(own, "case", 3):
            return self._below_case(own, level, bound)
        parts = self._made(own)
        return None if parts is None else [(part, bound) for part in parts]

    def _below_case(self, own, level, bound):
        rows = own[2]
        if not isinstance(rows, tuple) or len(rows) < 1 or len(rows) > MOST_ROWS:
            return None
        inner = [(own[1], bound)]
        for row in rows:
            words = self.pattern_words(row[0], level + 1) if isinstance(row, tuple) and len(row) == 2 else None
            if words is None:
                return None
            words.update(bound)
            inner.append((row[1], words))
        return inner
