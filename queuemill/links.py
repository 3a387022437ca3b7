"""What must stand above what in the stages of a deed."""

LOUD = ("over", "rest", "get", "call")


def takers(layer):
    """For each part but the deed, which stands last, the number of the one around it."""
    found = [0] * (len(layer) - 1)
    for number, (_, within) in enumerate(layer):
        for part in within:
            found[part] = number
    return found


def louds(layer):
    """The numbers of the loud parts, as they are done by the text."""
    return [number for number, (row, _) in enumerate(layer) if row[0] in LOUD]


def links_of(layer):
    """The list of (lower, upper, rise): the upper one's stage is more by the rise at least.

    First one for each part but the deed, up to the one around it; then one for
    each loud part but the last, up to the next. The numbers of a paper stand so.
    """
    found = [(part, taker, 1) for part, taker in enumerate(takers(layer))]
    in_turn = louds(layer)
    for lower, upper in zip(in_turn, in_turn[1:]):
        found.append((lower, upper, 0))
    return found
