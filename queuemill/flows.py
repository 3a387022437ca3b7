"""The most that can go along links, and the least heights that keep all links."""


def fullest(many, links):
    """(flows, heights) for so many places and the links (lower, upper, rise) between them.

    One along each rising link is what flows at first. Of all flows that leave as much
    at each place as these do, those are told that have the greatest sum over the rising
    links. The heights are the least ones, from 0, that keep all links, and with no more
    than its rise each link along which something flows: these are just the heights with
    the least sum of what the rising links span, since that is as much as flows there.
    """
    flows = [rise for _, _, rise in links]
    while True:
        steps = steps_left(links, flows)
        heights, ring = climbed(many, steps)
        if not ring:
            return (flows, heights)
        send_round(ring, flows)


def steps_left(links, flows):
    """The list of (start, end, rise, link, change): how the flow of a link may change."""
    steps = []
    for link, (lower, upper, rise) in enumerate(links):
        steps.append((lower, upper, rise, link, 1))
        if flows[link] > 0:
            steps.append((upper, lower, -rise, link, -1))
    return steps


def climbed(many, steps):
    """(heights, []) if heights can keep all steps, else (heights, a ring of steps that rises)."""
    heights = [0] * many
    came_by = [None] * many
    for _ in range(many):
        risen = None
        for step in steps:
            start, end, rise, _, _ = step
            if heights[start] + rise > heights[end]:
                heights[end] = heights[start] + rise
                came_by[end] = step
                risen = end
        if risen is None:
            return (heights, [])
    return (heights, ring_behind(risen, came_by))


def ring_behind(place, came_by):
    """The steps of the ring that is met on the way back from a place."""
    # As many steps back as there are places: that is within the ring for sure.
    for _ in range(len(came_by)):
        place = came_by[place][0]
    ring = [came_by[place]]
    while ring[-1][0] != place:
        ring.append(came_by[ring[-1][0]])
    return ring


def send_round(ring, flows):
    """Change the flows of a ring by as much as the ones that shrink allow."""
    # Links alone never lead back, so at least one of the flows shrinks.
    amount = min([flows[link] for _, _, _, link, change in ring if change < 0])
    for _, _, _, link, change in ring:
        flows[link] += change * amount
