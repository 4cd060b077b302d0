"""Rows of nodes, and pages that tell ways."""

from sharefold.errors import TooMany
from sharefold.integers import is_between
from sharefold.pagesigns import MOST_ITEMS, PageSigns, RowSigns
from sharefold.plainsteps import is_redex, stepped
from sharefold.termshapes import GREATEST_NODE, MOST_HEIGHT, MOST_NODES
from sharefold.termwriter import written
from sharefold.textchecks import check_text, read_through
from sharefold.texterrors import BadLine, NotWritable
from sharefold.ways import terms_along


def is_row(value):
    """Whether any value is a row of nodes."""
    if not isinstance(value, tuple) or len(value) > MOST_ITEMS:
        return False
    return all([is_between(node, 0, GREATEST_NODE) for node in value])


def write_row(row):
    """The text of a row of nodes."""
    if not is_row(row):
        raise NotWritable("not a row of nodes")
    return "[" + ",".join([str(node) for node in row]) + "]"


def read_row(text):
    """The row of nodes of a text."""
    check_text(text)
    reader = RowSigns()
    read_through(reader, text)
    return tuple(reader.nodes)


def write_way(term, way):
    """The page of a way of a term."""
    first, *others = terms_along(term, way)
    lines = [written(first) + "\n"]
    for node, behind in zip(way, others):
        lines.append(f"{node}: {written(behind)}\n")
    return "".join(lines)


def read_way(text):
    """The pair of the term and of the way that a page tells."""
    check_text(text)
    reader = PageSigns()
    read_through(reader, text)
    term = line_term(reader.terms[0], 0)
    ahead = term
    for index, node in enumerate(reader.nodes, 1):
        behind = line_term(reader.terms[index], index)
        if not leads_to(ahead, node, behind):
            raise BadLine(index)
        ahead = behind
    return term, tuple(reader.nodes)


def line_term(told, index):
    """The term of a line, told with its size and its height."""
    term, size, height = told
    if size > MOST_NODES or height > MOST_HEIGHT:
        raise BadLine(index)
    return term


def leads_to(term, node, behind):
    """Whether a node is a redex of a term, the plain step at which leads to the term behind."""
    if not is_redex(term, node):
        return False
    try:
        return stepped(term, node) == behind
    except TooMany:
        return False
