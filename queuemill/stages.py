"""Stages of a deed: which are right, the turns they take, and what shows that none take fewer."""

from queuemill.errors import BadPaper, BadStages
from queuemill.flows import fullest
from queuemill.links import links_of
from queuemill.programs import layers
from queuemill.words import is_number

MOST_STAGE = 1000


def stages(deed):
    """The stages with the fewest turns of all, and of those the least for each part."""
    return least_stages(layers(deed))


def turns(deed, some):
    """How many turns these stages take."""
    layer = layers(deed)
    check_stages(layer, some)
    return sum([some[upper] - some[lower] - 1 for lower, upper, rise in links_of(layer) if rise == 1])


def paper(deed):
    """A paper whose bound is just the turns that the told stages take."""
    layer = layers(deed)
    flows, _ = fullest(len(layer), links_of(layer))
    parts = len(layer) - 1
    return (flows[:parts], flows[parts:])


def bound(deed, shown):
    """How many turns a paper shows that any stages take at least."""
    layer = layers(deed)
    check_paper(layer, shown)
    to_takers, _ = shown
    return sum(to_takers) - len(to_takers)


def least_stages(layer):
    _, heights = fullest(len(layer), links_of(layer))
    return heights


def check_stages(layer, some):
    if not isinstance(some, list) or len(some) != len(layer):
        raise BadStages("a stage for each part, the deed's own last")
    if not all([is_number(stage) and 0 <= stage <= MOST_STAGE for stage in some]):
        raise BadStages("a stage is a number from 0 to 1000")
    for lower, upper, rise in links_of(layer):
        if some[upper] - some[lower] < rise:
            raise BadStages(f"part {upper} stands too low for part {lower}")


def check_paper(layer, shown):
    links = links_of(layer)
    flows = flows_shown(shown, len(layer) - 1)
    if len(flows) != len(links) or not all([is_number(flow) and flow >= 0 for flow in flows]):
        raise BadPaper("a number from 0 for each part but the deed, and for each loud one but the last")
    # Of what comes in, what goes out is taken, and one for each part within, but one less.
    left = [1 - len(within) for _, within in layer]
    left[-1] -= 1
    for flow, (lower, upper, _) in zip(flows, links):
        left[lower] -= flow
        left[upper] += flow
    for part, rest in enumerate(left):
        if rest != 0:
            raise BadPaper(f"what comes into part {part} is not what goes out")


def flows_shown(shown, parts):
    """The numbers of both lists of a paper, the first list having so many."""
    if not isinstance(shown, tuple) or len(shown) != 2 or not all([isinstance(half, list) for half in shown]):
        raise BadPaper("a paper is a tuple of two lists")
    to_takers, to_louds = shown
    if len(to_takers) != parts:
        raise BadPaper("a number for each part but the deed")
    return to_takers + to_louds
