"""The document's words on stages, taken one by one and slowly."""

from queuemill.programs import layers

LOUD = ("over", "rest", "get", "call")


def takers(deed):
    """For each part but the deed, the number of the one around it."""
    layer = layers(deed)
    return [around for part in range(len(layer) - 1)
            for around, (_, within) in enumerate(layer) if part in within]


def loud_parts(deed):
    return [part for part, (row, _) in enumerate(layers(deed)) if row[0] in LOUD]


def are_right(deed, some):
    """Whether stages are right by [9]."""
    if len(some) != len(layers(deed)) or not all(0 <= stage <= 1000 for stage in some):
        return False
    if not all(some[part] < some[taker] for part, taker in enumerate(takers(deed))):
        return False
    loud = loud_parts(deed)
    return all(some[one] <= some[other] for one in loud for other in loud if one < other)


def turns_of(deed, some):
    """In how many stages between its own and that of the part that takes it a worth waits."""
    return sum(len(range(some[part] + 1, some[taker])) for part, taker in enumerate(takers(deed)))


def all_stages(deed, top):
    """All right stages with numbers below top."""
    layer = layers(deed)
    loud = loud_parts(deed)
    found = [[]]
    for part, (_, within) in enumerate(layer):
        found = [[*some, stage] for some in found for stage in range(top)
                 if all(some[inner] < stage for inner in within)
                 and (part not in loud or all(some[other] <= stage for other in loud if other < part))]
    return found


def best_stages(deed):
    """(fewest turns, for each part the least number of those that have them), by trying all."""
    around = takers(deed)
    tried = [(sum(some[taker] - some[part] - 1 for part, taker in enumerate(around)), some)
             for some in all_stages(deed, len(layers(deed)))]
    fewest = min(turns for turns, _ in tried)
    best = [some for turns, some in tried if turns == fewest]
    least = [min(column) for column in zip(*best)]
    assert least in best
    return fewest, least


def links(deed):
    """(lower, upper, least rise) for each number of a paper."""
    loud = loud_parts(deed)
    return ([(part, taker, 1) for part, taker in enumerate(takers(deed))]
            + [(lower, upper, 0) for lower, upper in zip(loud, loud[1:])])


def is_paper(deed, shown):
    """Whether a paper is one by [11]."""
    to_takers, to_louds = shown
    around = takers(deed)
    loud = loud_parts(deed)
    layer = layers(deed)
    if len(to_takers) != len(around) or len(to_louds) != max(len(loud) - 1, 0) or min(to_takers + to_louds) < 0:
        return False
    for part in range(len(around)):
        comes_in = sum(flow for inner, flow in enumerate(to_takers) if around[inner] == part)
        goes_out = to_takers[part]
        if part in loud[1:]:
            comes_in += to_louds[loud.index(part) - 1]
        if part in loud[:-1]:
            goes_out += to_louds[loud.index(part)]
        if comes_in != goes_out + len(layer[part][1]) - 1:
            return False
    return True


def are_least(deed, some, shown):
    """Whether no part's number can be less without more turns, shown by a paper of so many turns.

    Where a paper whose bound is just the turns tells more than 0, no stages with so
    few turns can rise by more than they must. So from parts at 0, by what must rise
    at least and by what may not rise more, the number of each part must follow.
    """
    follow = [(lower, upper, rise) for lower, upper, rise in links(deed)]
    follow += [(upper, lower, -rise) for (lower, upper, rise), flow in zip(links(deed), shown[0] + shown[1]) if flow]
    reached = [part for part, stage in enumerate(some) if stage == 0]
    for part in reached:
        for start, end, rise in follow:
            if start == part and some[start] + rise == some[end] and end not in reached:
                reached.append(end)
    return len(reached) == len(some)


def done_by_queue(rows):
    """What lies in a queue of texts behind rows, each of which takes its worths from the front."""
    wants = {"num": 0, "name": 0, "not": 1, "get": 1, "set": 1, "put": 2, "say": 1, "unless": 1, "return": 1,
             "away": 1, "turn": 1}
    queue = []
    for row in rows:
        many = row[2] if row[0] == "call" else wants.get(row[0], 2)
        taken, queue = queue[:many], queue[many:]
        queue.append(taken[0] if row == ("turn",) else (row, *taken))
    return queue


def tree_of(deed):
    """What must lie in the end: the deed's row with those of all parts within."""
    made = []
    for row, within in layers(deed):
        made.append((row, *[made[part] for part in within]))
    return made[-1]
