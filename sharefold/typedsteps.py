"""Types that are kept along steps."""

from sharefold.steps import origins
from sharefold.typings import check_typing


def types_behind(term, types, node):
    """The types behind the plain step at a redex, each node having that of the one of which it is a copy."""
    check_typing(term, types)
    return tuple([types[origin] for origin in origins(term, node)])
