"""Trails: ways with the terms along them, and what is left along them."""

from sharefold.lotrows import check_many, developed_with
from sharefold.lots import developed_by
from sharefold.plainsteps import copies_of, stepped
from sharefold.termshapes import is_redex_part, parts_of
from sharefold.ways import followed


class TrailStep:
    """A step of a way: its redex, the terms ahead of it and behind it, and of which nodes there are copies."""

    def __init__(self, ahead, node, behind):
        self.ahead = ahead
        self.node = node
        self.behind = behind
        self.origins = [origin for origin, _ in copies_of(ahead, node)]
        self.parts = parts_of(ahead)

    def left(self, lot):
        """What is left of a lot behind this step."""
        kept = {own: True for own in lot}
        return tuple([place for place, origin in enumerate(self.origins) if origin in kept])


def trail_of(term, way):
    """The trail of a way of what is a term: the list of its steps."""
    terms = followed(term, way)
    return [TrailStep(ahead, node, behind) for ahead, node, behind in zip(terms, way, terms[1:])]


def trail_of_row(term, row):
    """The trail of a row of lots."""
    trail = []
    for lot in row:
        for node in lot[::-1]:
            trail.append(TrailStep(term, node, stepped(term, node)))
            term = trail[-1].behind
    return trail


def way_of(trail):
    return tuple([step.node for step in trail])


def tail_behind(trail, lot):
    """The trail of the tail of a way behind a lot, and what is left of the lot along the way."""
    left = lot
    row = []
    rest = list(trail)
    # Where nothing is left of the lot, the rest of the tail is that of the way, with the same terms.
    while rest and left:
        step = rest.pop(0)
        row.append(developed_with(step.ahead, left, (step.node,))[1])
        check_many(row)
        left = step.left(left)
    check_many([*row, way_of(rest)])
    told = trail_of_row(developed_by(trail[0].ahead, lot), row) if row else []
    return told + rest, left


def traced(trail, place):
    """The pairs (place, node) of the redexes of which that of a step is left, itself the first, going backwards."""
    node = trail[place].node
    found = [(place, node)]
    for earlier in range(place - 1, -1, -1):
        node = trail[earlier].origins[node]
        if not is_redex_part(trail[earlier].parts[node]):
            break
        found.append((earlier, node))
    return found
