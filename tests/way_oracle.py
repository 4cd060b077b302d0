"""Ways of terms at random, and rows of lots, meetings and standard ways told straight from their definitions."""

from sharefold.developments import developed, development
from sharefold.errors import TooMany
from sharefold.residuals import left_along, left_behind
from sharefold.steps import redexes, step
from sharefold.ways import terms_along, walk


def random_way(dice, term, most):
    """A way of at most so many steps, none too great."""
    way = ()
    for _ in range(dice.randrange(most + 1)):
        found = redexes(term)
        if not found:
            break
        node = dice.choice(found)
        try:
            term = step(term, node)
        except TooMany:
            break
        way += (node,)
    return way


def slow_left_row(term, row, lot):
    left = []
    for own in row:
        left.append(left_along(term, development(term, lot), own))
        if sum(map(len, left)) > 200:
            raise TooMany(200)
        behind = developed(term, own)
        lot = left_along(term, development(term, own), lot)
        term = behind
    return left, lot


def slow_row_way(term, row):
    way = ()
    for lot in row:
        way += development(term, lot)
        term = developed(term, lot)
    return way


def slow_tail(term, way, lot):
    row, left = slow_left_row(term, [(node,) for node in way], lot)
    return (slow_row_way(developed(term, lot), row) if way else ()), left


def slow_meeting(term, one, other):
    row, noted = [(node,) for node in one], []
    for ahead, node in zip(terms_along(term, other), other):
        row, left = slow_left_row(ahead, row, (node,))
        noted.append(left)
        if sum(map(len, noted)) > 200:
            raise TooMany(200)
    return slow_row_way(walk(term, one), noted), slow_row_way(walk(term, other), row)


def slow_triples(term, way):
    """All unsorted triples of a way."""
    terms = terms_along(term, way)
    for earlier, node in enumerate(way):
        for lesser in [own for own in redexes(terms[earlier]) if own < node]:
            lot = (lesser,)
            for later in range(earlier, len(way)):
                if later > earlier and way[later] in lot:
                    yield earlier, later, lesser
                lot = left_behind(terms[later], way[later], lot)


def slow_done(term, way):
    """The redexes that are done by a way, ascending."""
    found = []
    for node in redexes(term):
        lot = (node,)
        ahead = term
        for own in way:
            if own in lot:
                found.append(node)
                break
            lot = left_behind(ahead, own, lot)
            ahead = step(ahead, own)
    return found


def slow_standard_way(term, way):
    steps = ()
    while way:
        if len(steps) == 200:
            raise TooMany(200)
        node = slow_done(term, way)[0]
        steps += (node,)
        way = slow_tail(term, way, (node,))[0]
        term = step(term, node)
    return steps


def told_or_limit(function, *arguments):
    """What a function returns, or the limit for which it raises TooMany."""
    try:
        return function(*arguments)
    except TooMany as error:
        return "limit", error.limit
