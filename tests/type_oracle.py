"""Types of terms by equations that are solved one by one, and clashes by sets of points."""


def walk_types(term, around, count, equations):
    """The type that stands at each node of a term, in order; equations between types are noted."""
    own = ("open", count[0])
    count[0] += 1
    if term[0] == "letter":
        return [own]
    if term[0] == "name":
        equations.append((own, around[len(around) - 1 - term[1]]))
        return [own]
    if term[0] == "fun":
        mark = ("open", count[0])
        count[0] += 1
        body = walk_types(term[1], around + [mark], count, equations)
        equations.append((own, ("to", mark, body[0])))
        return [own] + body
    function = walk_types(term[1], around, count, equations)
    argument = walk_types(term[2], around, count, equations)
    equations.append((function[0], ("to", argument[0], own)))
    return [own] + function + argument


def solve(equations):
    """What open ones stand for, or None if an open one would be within itself."""
    known = {}

    def seen(own):
        while own[0] == "open" and own[1] in known:
            own = known[own[1]]
        return own

    def within(number, own):
        own = seen(own)
        if own[0] == "open":
            return own[1] == number
        return within(number, own[1]) or within(number, own[2])

    waiting = list(equations)
    while waiting:
        one, other = waiting.pop()
        one, other = seen(one), seen(other)
        if one == other:
            continue
        if one[0] == "open" or other[0] == "open":
            if one[0] != "open":
                one, other = other, one
            if within(one[1], other):
                return None
            known[one[1]] = other
        else:
            waiting += [(one[1], other[1]), (one[2], other[2])]

    def full(own):
        own = seen(own)
        return own if own[0] == "open" else ("to", full(own[1]), full(own[2]))

    return full


def renumbered(types):
    numbers = {}

    def new(own):
        if own[0] == "open":
            return "open", numbers.setdefault(own[1], len(numbers))
        return "to", new(own[1]), new(own[2])

    return tuple([new(own) for own in types])


def slow_types(term):
    """The most general typing, or None."""
    equations = []
    types = walk_types(term, [], [0], equations)
    full = solve(equations)
    return None if full is None else renumbered([full(own) for own in types])


def numbered(term, around=(), count=None, rows=None):
    """For each node a row: its kind, its own function if it is a name, and the nodes of its parts."""
    count = [0] if count is None else count
    rows = {} if rows is None else rows
    node = count[0]
    count[0] += 1
    rows[node] = None
    if term[0] == "name":
        rows[node] = ("name", around[len(around) - 1 - term[1]], [])
    elif term[0] == "letter":
        rows[node] = ("letter", None, [])
    else:
        inner = around + ((node,) if term[0] == "fun" else ())
        parts = []
        for part in term[1:]:
            parts.append(count[0])
            numbered(part, inner, count, rows)
        rows[node] = (term[0], None, parts)
    return rows


def slow_clash(term, joins, ring):
    """Whether joins and a ring, both of the right form, are a clash of a term."""
    rows = numbered(term)
    points = [("node", node) for node in rows] + [("mark", node) for node in rows if rows[node][0] == "fun"]
    classes = {point: {point} for point in points}

    def join(one, other):
        both = classes[one] | classes[other]
        for point in both:
            classes[point] = both

    arrows = {}
    for node, (kind, own, parts) in rows.items():
        if kind == "name":
            join(("node", node), ("mark", own))
        if kind == "fun":
            arrows[node] = [("node", node), ("mark", node), ("node", parts[0])]
        if kind == "call":
            arrows[node] = [("node", parts[0]), ("node", parts[1]), ("node", node)]
    most = 2 * len(rows)
    if len(joins) > most or not 1 <= len(ring) <= most:
        return False
    for one, other in joins:
        if one not in arrows or other not in arrows or arrows[other][0] not in classes[arrows[one][0]]:
            return False
        join(arrows[one][1], arrows[other][1])
        join(arrows[one][2], arrows[other][2])
    for (arrow, which), (after, _) in zip(ring, ring[1:] + ring[:1]):
        if arrow not in arrows or after not in arrows or which not in (0, 1):
            return False
        if arrows[after][0] not in classes[arrows[arrow][1 + which]]:
            return False
    return True
