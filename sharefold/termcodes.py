"""Strings that tell terms, by which these can be found again, however deep they are."""

from sharefold.termshapes import parts_of

# The signs of nodes that have parts.
SIGNS = {"fun": "f", "call": "c"}


def sign_of(part):
    if part[0] == "name":
        return str(part[1])
    return part[1] if part[0] == "letter" else SIGNS[part[0]]


def code_of(term):
    """A string that tells a term, unlike ones for unlike terms."""
    return " ".join([sign_of(part) for part in parts_of(term)])
