"""Texts of terms and of types read whole, sign by sign of no matter: slow, but plainly as told."""

import re

MOST_DEPTH = 60


class Bad(Exception):
    """No text."""


def split_up(text):
    signs = re.findall(r"[a-z]+|[A-Z]|[().\\$]| ", text)
    if "".join(signs) != text:
        raise Bad
    return [sign for sign in signs if sign != " "]


def read_parts(signs, around, depth):
    """A term from signs, of which those that it has are taken away."""
    read = None
    while signs and signs[0] != ")":
        part = read_part(signs, around, depth)
        read = part if read is None else ("call", read, part)
    if read is None:
        raise Bad
    return read


def read_part(signs, around, depth):
    sign = signs.pop(0)
    if sign.isupper():
        return ("letter", sign)
    if sign.islower():
        if sign not in around:
            raise Bad
        return ("name", around[::-1].index(sign))
    if sign == "." or depth == MOST_DEPTH:
        raise Bad
    if sign == "(":
        read = read_parts(signs, around, depth + 1)
        if signs[:1] != [")"]:
            raise Bad
        signs.pop(0)
        return read
    word, dot = (signs + ["", ""])[:2]
    if not re.fullmatch("[a-z]{1,4}", word) or dot != ".":
        raise Bad
    del signs[:2]
    fun = ("fun", read_parts(signs, around + [word], depth + 1))
    if sign == "\\":
        return fun
    inner = ("fun", ("call", ("name", 1), ("call", ("name", 0), ("name", 0))))
    return ("call", ("fun", ("call", inner, inner)), fun)


def slow_read(text):
    """The term of a text, or None."""
    try:
        signs = split_up(text)
        term = read_parts(signs, [], 0)
    except Bad:
        return None
    return None if signs else term


def goes_on(text):
    """Whether some text begins with this one."""
    words = re.findall("[a-z]+", text)
    ends = {"", "A", ".A", "a.A"} | {word[place:] for word in words for place in range(1, 4)}
    closing = text.count("(") + 1
    return any(slow_read(text + end + ")" * many) is not None for end in ends for many in range(closing))


def slow_refused(text):
    for index in range(len(text)):
        if not goes_on(text[:index + 1]):
            return index
    return None if slow_read(text) is not None else len(text)
