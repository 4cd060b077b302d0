"""Values that many tests need."""

import random

from sharefold.errors import InvalidTerm, TooMany

A, B = ("letter", "A"), ("letter", "B")
I = ("fun", ("name", 0))
W = ("fun", ("call", ("name", 0), ("name", 0)))
T = ("call", W, ("call", I, A))


def call(*parts):
    term = parts[0]
    for part in parts[1:]:
        term = ("call", term, part)
    return term


def funs(many, body):
    for _ in range(many):
        body = ("fun", body)
    return body


def calls(many, term):
    """A call nested so many times in arguments."""
    for _ in range(many):
        term = ("call", A, term)
    return term


def full(leaves, leaf=A):
    """A low term of so many leaves, so with 2 * leaves - 1 nodes if these are letters or names."""
    if leaves == 1:
        return leaf
    return ("call", full(leaves // 2, leaf), full(leaves - leaves // 2, leaf))


# The steps at 0 of these are too great: for 600 nodes, for a height of 60.
WIDE = call(funs(1, full(5, ("name", 0))), full(150))
HIGH = call(funs(1, calls(30, ("name", 0))), calls(30, B))


def limit_of(function, *arguments):
    """The limit for which a function raises TooMany, or None."""
    try:
        function(*arguments)
    except TooMany as error:
        return error.limit
    return None


def nested(depth, value=0):
    for _ in range(depth):
        value = (value,)
    return value


class Odd:
    """No value of any listed sort."""


# Values that are none of a term, a tuple of integers, or a string that is asked for.
ODD_VALUES = [
    None, True, False, 0, -1, 5, 10 ** 119, -10 ** 119, "", "A", "name", "x" * 2000, (), [], (0,), [0], ((),), [[]],
    (None,), ("name",), ("name", 0), ["name", 0], ("letter", "a"), ("letter", "AB"), ("letter", ""), ("letter", 1),
    ("letter", None), ("letter", ("A",)), ["letter", "A"], ("letter", "A", "A"), ("letter", "["), ("letter", "@"),
    ("fun",), ("fun", 0), ("fun", ["name", 0]), ["fun", ("name", 0)], ("fun", ("name", 0), ("name", 0)),
    ("fun", ("name", True)), ("fun", ("name", False)), ("fun", ("name", -1)), ("fun", ("name", 1)),
    ("fun", ("name", "0")), ("fun", ("name", None)), ("fun", ("name",)), ("fun", ("name", 0, 0)),
    ("call",), ("call", A), ["call", A, A], ("call", A, A, A), ("call", A, ("name", 0)), ("call", I, I[0]),
    ("call", (A,), A), (("call", A, A),), ("Letter", "A"), ("box", A), (A, A), (0, A, A), (True, "A"),
    nested(99), nested(99, "A"), [nested(98)], ("fun", nested(98)), tuple(range(2000)), ["A"] * 2000, InvalidTerm("x"),
    (InvalidTerm("x"), "A"),
]


def random_term(dice, size, around=0):
    """A term of about so many nodes, rich in redexes."""
    if size <= 1:
        if around and dice.random() < 0.85:
            return ("name", dice.randrange(around))
        return ("letter", dice.choice("ABC"))
    kind = dice.random()
    if kind < 0.3:
        return ("fun", random_term(dice, size - 1, around + 1))
    first = dice.randrange(1, max(2, size - 1))
    if kind < 0.65 and size > 3:
        return ("call", ("fun", random_term(dice, first - 1, around + 1)), random_term(dice, size - 1 - first, around))
    return ("call", random_term(dice, first, around), random_term(dice, size - 1 - first, around))


def random_terms(seed, many, greatest):
    dice = random.Random(seed)
    return [random_term(dice, dice.randrange(1, greatest + 1)) for _ in range(many)]


def told(term, around=(), count=None):
    """A term as a row (kind, what, parts, node), its functions told by objects of their own."""
    count = [0] if count is None else count
    node = count[0]
    count[0] += 1
    if term[0] == "name":
        return "name", around[len(around) - 1 - term[1]], [], node
    if term[0] == "letter":
        return "letter", term[1], [], node
    if term[0] == "fun":
        own = object()
        return "fun", own, [told(term[1], around + (own,), count)], node
    return "call", None, [told(part, around, count) for part in term[1:]], node


def untold(row, around=()):
    kind, what, parts, _ = row
    if kind == "name":
        return "name", around[::-1].index(what)
    if kind == "letter":
        return "letter", what
    around += (what,) if kind == "fun" else ()
    return (kind, *[untold(part, around) for part in parts])


def put_for(row, own, argument):
    kind, what, parts, node = row
    if kind == "name" and what is own:
        return argument
    return kind, what, [put_for(part, own, argument) for part in parts], node


def done_at(row, place):
    """A told term behind the step at a node; functions keep their objects in copies."""
    kind, what, parts, node = row
    if node == place:
        fun, argument = parts
        return put_for(fun[2][0], fun[1], argument)
    return kind, what, [done_at(part, place) for part in parts], node


def nodes_told(row):
    return [row[3]] + [node for part in row[2] for node in nodes_told(part)]


def slow_step(term, node):
    """The term behind a plain step, and the nodes of which its nodes are copies."""
    behind = done_at(told(term), node)
    return untold(behind), nodes_told(behind)


def book_of(many):
    """A book of so many unlike words of numbers alone."""
    return tuple([(place,) if place < 600 else (place // 600, place % 600) for place in range(many)])
