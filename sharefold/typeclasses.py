"""The classes of the points of a term, by which it has types or a clash."""

from sharefold.termshapes import owners_of, parts_of, sizes_of
from sharefold.typeshapes import joined_measures


class TypeClasses:
    """The points of a term in classes, each told by its least point.

    The points are the nodes, and a mark for each function: its node's number, and that of all
    nodes more. An arrow is a triple: the point of which it speaks, its first and its second part.
    """

    def __init__(self, term):
        parts = parts_of(term)
        sizes = sizes_of(parts)
        self.many = len(parts)
        self.heads = list(range(2 * self.many))
        self.arrows = {}
        for node, part in enumerate(parts):
            if part[0] == "fun":
                self.arrows[node] = (node, self.many + node, node + 1)
            elif part[0] == "call":
                self.arrows[node] = (node + 1, node + 1 + sizes[node + 1], node)
        for name, owner in enumerate(owners_of(term)):
            if owner is not None:
                self._unite(name, self.many + owner)

    def head(self, point):
        """The class of a point."""
        while self.heads[point] != point:
            self.heads[point] = self.heads[self.heads[point]]
            point = self.heads[point]
        return point

    def _unite(self, one, other):
        """Let the classes of two points be one; return whether they were not."""
        one, other = self.head(one), self.head(other)
        self.heads[max(one, other)] = min(one, other)
        return one != other

    def spoken(self, arrow):
        """The class of the point of which an arrow speaks."""
        return self.head(self.arrows[arrow][0])

    def part(self, arrow, which):
        """The class of the first or second part of an arrow."""
        return self.head(self.arrows[arrow][1 + which])

    def join(self, one, other):
        """Let the parts of two arrows that speak of one class be in one class; return whether they were not."""
        first = self._unite(self.arrows[one][1], self.arrows[other][1])
        second = self._unite(self.arrows[one][2], self.arrows[other][2])
        return first or second

    def join_all(self):
        """Join all arrows that speak of one class; return the list of the pairs that were joined."""
        joins = []
        many = -1
        while many < len(joins):
            many = len(joins)
            firsts = {}
            for arrow in self.arrows:
                first = firsts.setdefault(self.spoken(arrow), arrow)
                if self.join(first, arrow):
                    joins.append((first, arrow))
        return joins


class TypeOrder:
    """The classes of a term behind all joins, each behind those of the parts of what speaks of it.

    A class that has no place in this order has no type, as it would be within itself.
    """

    def __init__(self, classes):
        self.classes = classes
        self.arrow_at = {classes.spoken(arrow): arrow for arrow in classes.arrows}
        self.order = []
        self.settled = {}
        self._settle()

    def _settle(self):
        users = {}
        missing = {}
        for own, arrow in self.arrow_at.items():
            missing[own] = 2
            for which in (0, 1):
                users.setdefault(self.classes.part(arrow, which), []).append(own)
        points = [point for point in range(2 * self.classes.many) if self.classes.head(point) == point]
        waiting = [point for point in points if point not in missing]
        while waiting:
            own = waiting.pop()
            self.order.append(own)
            self.settled[own] = True
            for user in users.get(own, []):
                missing[user] -= 1
                if missing[user] == 0:
                    waiting.append(user)

    def is_whole(self):
        """Whether all classes have a type."""
        return all([own in self.settled for own in self.arrow_at])

    def is_open(self, node):
        """Whether the type at a node is open."""
        return self.classes.head(node) not in self.arrow_at

    def ring(self):
        """A ring, where not all classes have a type."""
        own = [own for own in self.arrow_at if own not in self.settled][0]
        steps = []
        places = {}
        while own not in places:
            places[own] = len(steps)
            arrow = self.arrow_at[own]
            which = 1 if self.classes.part(arrow, 0) in self.settled else 0
            steps.append((arrow, which))
            own = self.classes.part(arrow, which)
        return tuple(steps[places[own]:])

    def measures(self):
        """The list of the pairs of size and height of the types of all nodes."""
        measures = {}
        for own in self.order:
            measures[own] = (1, 0)
            if own in self.arrow_at:
                arrow = self.arrow_at[own]
                one, other = measures[self.classes.part(arrow, 0)], measures[self.classes.part(arrow, 1)]
                measures[own] = joined_measures(one, other)
        return [measures[self.classes.head(node)] for node in range(self.classes.many)]

    def types(self):
        """The tuple of the types of all nodes, plain."""
        numbers = self.open_numbers()
        types = {}
        for own in self.order:
            if own in self.arrow_at:
                arrow = self.arrow_at[own]
                types[own] = ("to", types[self.classes.part(arrow, 0)], types[self.classes.part(arrow, 1)])
            else:
                types[own] = ("open", numbers.get(own))
        return tuple([types[self.classes.head(node)] for node in range(self.classes.many)])

    def open_numbers(self):
        """The numbers of the open classes, as they come first in the types of the nodes."""
        numbers = {}
        seen = {}
        for node in range(self.classes.many):
            waiting = [self.classes.head(node)]
            while waiting:
                own = waiting.pop()
                if own in seen:
                    continue
                seen[own] = True
                if own in self.arrow_at:
                    arrow = self.arrow_at[own]
                    waiting.extend([self.classes.part(arrow, 1), self.classes.part(arrow, 0)])
                else:
                    numbers[own] = len(numbers)
        return numbers
