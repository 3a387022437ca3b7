"""A deed's parts, numbered and laid to rows as they are done."""

from queuemill.checks import check_deed
from queuemill.words import parts_of


def layers(deed):
    """The list of (row, numbers of the parts straight within), the deed's own last."""
    check_deed(deed)
    found = []
    lay(deed, found)
    return found


def lay(thing, found):
    """Add a thing's row behind those of what is within it, and tell its number."""
    within = []
    for part in parts_of(thing):
        within.append(lay(part, found))
    found.append((row_of(thing), tuple(within)))
    return len(found) - 1


def row_of(thing):
    word = thing[0]
    if word in ("num", "name", "set"):
        return (word, thing[1])
    if word == "call":
        return (word, thing[1], len(thing[2]))
    if word in ("if", "while"):
        return ("unless",)
    if word == "do":
        return ("away",)
    return (word,)
