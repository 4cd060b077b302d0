"""Folds that are worked on, without any checks but for ways and for what is too great."""

from sharefold.errors import InvalidWay, TooMany
from sharefold.integers import is_integer
from sharefold.plainsteps import copies_of, is_redex, stepped
from sharefold.termshapes import parts_of, redexes_in
from sharefold.ways import check_way_form
from sharefold.wordbooks import MOST_MARKS, MOST_WORDS


def first_fold(term):
    """The fold with which a term begins."""
    many = len(parts_of(term))
    return term, tuple(range(many)), tuple([(node,) for node in range(many)])


def families_in(term, words):
    """The ascending tuple of the redexes of each family, by the families, ascending."""
    redexes = {}
    for node in redexes_in(parts_of(term)):
        redexes.setdefault(words[node + 1], []).append(node)
    return {family: tuple(redexes[family]) for family in sorted(redexes)}


def words_behind(term, words, shelf, node, family):
    """The words of the nodes behind the marked step at a redex, and the shelf then.

    Words are told by their places on a shelf, a list of words; new ones come to its end.
    """
    behind = []
    news = []
    for place, (origin, name) in enumerate(copies_of(term, node)):
        marks = ()
        if place == node:
            marks = (*shelf[words[node]], ("over", family))
        if name is not None:
            marks = (*marks, *shelf[words[name]], ("under", family))
        if not marks:
            behind.append(words[origin])
            continue
        marks = (*marks, *shelf[words[origin]])
        if len(marks) > MOST_MARKS:
            raise TooMany(MOST_MARKS)
        behind.append(len(shelf) + len(news))
        news.append(marks)
    return behind, shelf + news


class Folding:
    """A fold that goes on by steps.

    The indices of the book's words are kept by the words, so that they need not be sought.
    """

    def __init__(self, fold):
        self.term, self.words, book = fold
        self.book = list(book)
        self.indices = {marks: index for index, marks in enumerate(book)}

    def fold(self):
        return self.term, tuple(self.words), tuple(self.book)

    def families(self):
        return families_in(self.term, self.words)

    def mark(self, node):
        """Do the marked step at a redex."""
        self._do((node,), self.words[node + 1])

    def do_family(self, family):
        """Do the family step of a family, from the greatest redex to the least one."""
        self._do(self.families()[family][::-1], family)

    def follow_nodes(self, way):
        """Do marked steps along a way."""
        check_way_form(way)
        for node in way:
            if not is_redex(self.term, node):
                raise InvalidWay("not a redex of the term then")
            self.mark(node)

    def follow_families(self, way):
        """Do family steps along a way of families, and return the nodes of all their plain steps."""
        check_way_form(way)
        nodes = []
        for family in way:
            found = self.families()
            if not is_integer(family) or family not in found:
                raise InvalidWay("not a family of a redex then")
            self.do_family(family)
            nodes.extend(found[family][::-1])
        return nodes

    def _do(self, nodes, family):
        """Do marked steps at nodes, one by one; nothing is changed if this would be too great."""
        term, words, shelf = self.term, self.words, self.book
        for node in nodes:
            behind = stepped(term, node)
            words, shelf = words_behind(term, words, shelf, node, family)
            term = behind
        self._settle(term, words, shelf)

    def _settle(self, term, words, shelf):
        """Take the words of the nodes that are not in the book from the shelf into it."""
        many = len(self.book)
        news = {}
        settled = []
        for word in words:
            index = word if word < many else self.indices.get(shelf[word])
            if index is None:
                index = news.setdefault(shelf[word], many + len(news))
            settled.append(index)
        if many + len(news) > MOST_WORDS:
            raise TooMany(MOST_WORDS)
        for marks, index in news.items():
            self.indices[marks] = index
        self.book.extend(list(news))
        self.term = term
        self.words = settled
