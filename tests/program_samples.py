"""Programs that many tests need."""

import random


def word(name):
    return ("word", name)


def fun(*names_and_body):
    *names, body = names_and_body
    for name in names[::-1]:
        body = ("fun", name, body)
    return body


def calls(function, *arguments):
    for own in arguments:
        function = ("call", function, own)
    return function


def make(kind, *parts):
    return ("make", kind, tuple(parts))


def case(own, *rows):
    return ("case", own, tuple(rows))


ANY = ("any",)
X, Y, F = word("x"), word("y"), word("f")
N = make("N")
IF = fun("a", case(word("a"), (make("S", word("b")), word("b")), (ANY, N)))
IP = ("call", IF, make("S", N))
LOOP = ("let", "x", X, X)
ENDLESS = ("let", "x", make("S", X), X)
# The sum of two numbers, which are so many S around N.
PLUS = fun("a", "b", case(word("a"), (N, word("b")), (make("S", word("c")), make("S", calls(word("p"), word("c"), word("b"))))))


def number(many):
    return N if many == 0 else make("S", number(many - 1))


def plus(one, other):
    return ("let", "p", PLUS, calls(word("p"), number(one), number(other)))


def great_number(many, body):
    """A body in which the word n stands for a number, at least 1, which is doubled up to it."""
    names = ["n" + str(at) for at in range(many.bit_length() - 1)][::-1] + ["n"]
    rows = [make("S", N)]
    for at, bit in enumerate(bin(many)[3:]):
        double = calls(word("p"), word(names[at]), word(names[at]))
        rows.append(make("S", double) if bit == "1" else double)
    for name, own in list(zip(names, rows))[::-1]:
        body = ("let", name, own, body)
    return ("let", "p", PLUS, body)


# How many parts those have that random programs are made of.
KINDS = {"N": 0, "M": 0, "S": 1, "P": 2}


def random_pattern(dice, size, names):
    """A pattern in which names stand; they are taken away from the list."""
    if size <= 1 or dice.random() < 0.35:
        if names and dice.random() < 0.7:
            return word(names.pop())
        return ANY
    kind = dice.choice(list(KINDS))
    return make(kind, *[random_pattern(dice, size - 1, names) for _ in range(KINDS[kind])])


def pattern_names(pattern):
    if pattern[0] == "word":
        return [pattern[1]]
    return [name for part in (pattern[2] if pattern[0] == "make" else ()) for name in pattern_names(part)]


def random_expression(dice, size, bound):
    """An expression of about so many parts in which these words are bound."""
    if size <= 1:
        if bound and dice.random() < 0.8:
            return word(dice.choice(bound))
        return make(dice.choice("NM"))
    new = "abcdefgh"[dice.randrange(8)] + dice.choice(["", "1", "x"])
    sort = dice.random()
    if sort < 0.12:
        return ("fun", new, random_expression(dice, size - 1, bound + [new]))
    if sort < 0.3:
        function = ("fun", new, random_expression(dice, size // 2, bound + [new]))
        if dice.random() < 0.3:
            function = random_expression(dice, size // 2, bound)
        return ("call", function, random_expression(dice, size // 2, bound))
    if sort < 0.48:
        own = bound + [new] if dice.random() < 0.6 else bound
        own = random_expression(dice, size // 2, own)
        return ("let", new, own, random_expression(dice, size // 2, bound + [new]))
    if sort < 0.56 and bound:
        return ("par", dice.choice(bound), random_expression(dice, size - 1, bound))
    if sort < 0.78:
        kind = dice.choice(["S", "P", "P"])
        return make(kind, *[random_expression(dice, size // 2, bound) for _ in range(KINDS[kind])])
    rows = []
    for _ in range(dice.randrange(1, 4)):
        pattern = random_pattern(dice, 3, ["u", "v", "w", "z1"])
        rows.append((pattern, random_expression(dice, size // 3, bound + pattern_names(pattern))))
    return case(random_expression(dice, size // 3, bound), *rows)


def random_programs(seed, many, greatest):
    dice = random.Random(seed)
    return [random_expression(dice, dice.randrange(1, greatest + 1), []) for _ in range(many)]


def random_value(dice, deep):
    kind = dice.choice(list(KINDS) if deep > 1 else "NM")
    return make(kind, *[random_value(dice, deep - 1) for _ in range(KINDS[kind])])


def nested_make(deep):
    """Something made of kinds that is so deep."""
    return make("S", nested_make(deep - 1)) if deep > 1 else N


def kinds_row(many):
    """Expressions of so many kinds without parts, which are called one with the others."""
    return [make("K" + "abcdefghijklmnop"[at]) for at in range(many)]
