"""All terms to which the ways of an affine term lead, however great they are.

As nothing is copied in them, each is told by a row: those nodes of the first term that stay, in
their order in the term. A name belongs to the same function in all of them.
"""

from sharefold.errors import TooMany
from sharefold.termshapes import MOST_HEIGHT, below, measured_height, owners_of, parts_of

MOST_TERMS = 300


class AffineRows:
    """The rows that come of an affine term."""

    def __init__(self, term):
        self.parts = parts_of(term)
        self.owners = owners_of(term)
        self.names = {owner: node for node, owner in enumerate(self.owners) if owner is not None}

    def kind(self, node):
        return self.parts[node][0]

    def _indices(self, row):
        """For each node of a row how many functions are between it and its own one; None but for names."""
        indices = []
        levels = {}
        waiting = [0]
        for node in row:
            level = waiting.pop()
            levels[node] = level
            owner = self.owners[node]
            indices.append(None if owner is None else level - levels[owner] - 1)
            if self.kind(node) == "fun":
                waiting.append(level + 1)
            elif self.kind(node) == "call":
                waiting.extend([level, level])
        return indices

    def code(self, row):
        """A string that tells the term of a row, unlike ones for unlike terms."""
        return " ".join([self._sign(node, index) for node, index in zip(row, self._indices(row))])

    def _sign(self, node, index):
        if index is not None:
            return str(index)
        return self.parts[node][1] if self.kind(node) == "letter" else self.kind(node)

    def term_of(self, row):
        """The term of a row."""
        waiting = []
        for node, index in list(zip(row, self._indices(row)))[::-1]:
            part = self.parts[node] if index is None else ("name", index)
            own = [waiting.pop() for _ in below(part)]
            waiting.append((part[0], *own) if own else part)
        return waiting[0]

    def rows_behind(self, row):
        """The list of the rows behind the plain steps at all redexes of a row."""
        sizes = self._sizes(row)
        places = [place for place in range(len(row) - 1) if self.kind(row[place]) == "call"]
        return [self._behind(row, sizes, place) for place in places if self.kind(row[place + 1]) == "fun"]

    def _sizes(self, row):
        """How many nodes each part of a row's term has."""
        sizes = []
        waiting = []
        for node in row[::-1]:
            size = 1 + sum([waiting.pop() for _ in below(self.parts[node])])
            waiting.append(size)
            sizes.append(size)
        return sizes[::-1]

    def _behind(self, row, sizes, place):
        middle = place + 1 + sizes[place + 1]
        end = place + sizes[place]
        body = row[place + 2:middle]
        name = self.names.get(row[place + 1])
        # The name may be gone, with an argument that was dropped.
        if name in body:
            at = body.index(name)
            body = body[:at] + row[middle:end] + body[at + 1:]
        return row[:place] + body + row[end:]


class AffineWays:
    """The terms to which the ways of an affine term lead, each with those behind its steps."""

    def __init__(self, term):
        self.rows = AffineRows(term)
        self.first = list(range(len(self.rows.parts)))
        self.last = self.first
        self.nexts = {}
        self.sizes = {}
        self._find()

    def _find(self):
        found = {self.rows.code(self.first): self.first}
        waiting = list(found)
        while waiting:
            code = waiting.pop()
            nexts = {self.rows.code(row): row for row in self.rows.rows_behind(found[code])}
            self.nexts[code] = list(nexts)
            self.sizes[code] = len(found[code])
            if not nexts:
                self.last = found[code]
            news = [own for own in nexts if own not in found]
            for own in news:
                found[own] = nexts[own]
            if len(found) > MOST_TERMS:
                raise TooMany(MOST_TERMS)
            waiting.extend(news)

    def lengths(self):
        """The least and the greatest number of steps of all ways to the normal form."""
        least = {}
        greatest = {}
        # Each step makes a term smaller, so what is behind a term is counted ahead of it.
        for _, code in sorted([(size, code) for code, size in self.sizes.items()]):
            least[code] = min([least[own] + 1 for own in self.nexts[code]], default=0)
            greatest[code] = max([greatest[own] + 1 for own in self.nexts[code]], default=0)
        first = self.rows.code(self.first)
        return least[first], greatest[first]

    def normal_form(self):
        """The term in which all ways end."""
        term = self.rows.term_of(self.last)
        if measured_height(term) > MOST_HEIGHT:
            raise TooMany(MOST_HEIGHT)
        return term
