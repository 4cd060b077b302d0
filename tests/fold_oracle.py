"""Marked steps and family steps on terms whose nodes bear their marks: slow, but plainly as told."""

from sharefold.errors import TooMany
from sharefold.steps import step
from tests.samples import told, untold


def marked_rows(row, marks):
    """A told term with the marks of its nodes in the place of their numbers."""
    return row[0], row[1], [marked_rows(part, marks) for part in row[2]], marks[row[3]]


def put_marked(row, own, argument, family):
    kind, what, parts, marks = row
    if kind == "name" and what is own:
        return (*argument[:3], marks + (("under", family),) + argument[3])
    return kind, what, [put_marked(part, own, argument, family) for part in parts], marks


def done_marked(row, place, family, count):
    kind, what, parts, marks = row
    node = count[0]
    count[0] += 1
    if node == place:
        fun, argument = parts
        came = put_marked(fun[2][0], fun[1], argument, family)
        return (*came[:3], marks + (("over", family),) + came[3])
    return kind, what, [done_marked(part, place, family, count) for part in parts], marks


def marks_in(row):
    return [row[3]] + [marks for part in row[2] for marks in marks_in(part)]


def slow_marks(term, marks, node, family):
    """The term, and the marks of its nodes, behind a marked step."""
    behind = step(term, node)
    row = done_marked(marked_rows(told(term), marks), node, family, [0])
    if untold(row) != behind:
        raise AssertionError("not the plain step")
    if max(len(own) for own in marks_in(row)) > 400:
        raise TooMany(400)
    return behind, marks_in(row)


def slow_steps(fold, nodes, family):
    """The fold behind the marked steps at nodes, as one step."""
    term, words, book = fold
    marks = [book[word] for word in words]
    for node in nodes:
        term, marks = slow_marks(term, marks, node, family)
    book = list(book)
    for own in marks:
        if own not in book:
            book.append(own)
    if len(book) > 2000:
        raise TooMany(2000)
    return term, tuple([book.index(own) for own in marks]), tuple(book)
