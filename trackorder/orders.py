"""What links between things tell: ways, orders and what follows.

The links that are handed in here never lead in a ring.
"""


def shortest_way(links, start, goal):
    """The links of a way from one thing to an unlike one with the fewest links; None where there is no way."""
    came = {start: None}
    level = [start]
    while level and goal not in came:
        found = []
        for link in links:
            if link[0] in level and link[1] not in came:
                came[link[1]] = link
                found.append(link[1])
        level = found
    if goal not in came:
        return None
    return way_back(came, goal)


def way_back(came, goal):
    """The way to the goal, where came holds for each thing the link that reached it first."""
    way = []
    link = came[goal]
    while link is not None:
        way.append(link)
        link = came[link[0]]
    way.reverse()
    return way


def some_order(things, links):
    """One order of the things that keeps to the links."""
    order = []
    rest = list(things)
    while rest:
        held = [link[1] for link in links if link[0] in rest]
        free = [thing for thing in rest if thing not in held]
        order.append(free[0])
        rest.remove(free[0])
    return order


def loose_neighbours(order, links):
    """The place of the first of two neighbours that could stand the other way round; None if there are none.

    Whatever leads from a thing to its next neighbour by several links would
    have to stand between the two, so a single link is all to look for.
    """
    linked = [(earlier, later) for earlier, later, _ in links]
    for at in range(len(order) - 1):
        if (order[at], order[at + 1]) not in linked:
            return at
    return None


def earlier_masks(things, links):
    """For each thing the things linked ahead of it, as bits by their places."""
    places = {thing: at for at, thing in enumerate(things)}
    masks = [0] * len(things)
    for earlier, later, _ in links:
        masks[places[later]] |= 1 << places[earlier]
    return masks


def count_orders(things, links):
    """How many orders of the things keep to the links.

    Orders that begin with the same things in unlike ways go on alike, so
    only the numbers of beginnings are kept, by the things that are in them.
    """
    steps = [(1 << at, mask) for at, mask in enumerate(earlier_masks(things, links))]
    beginnings = {0: 1}
    for _ in things:
        longer = {}
        for begun, ways in beginnings.items():
            for bit, needed in steps:
                if begun & bit == 0 and begun & needed == needed:
                    longer[begun | bit] = longer.get(begun | bit, 0) + ways
        beginnings = longer
    return beginnings[(1 << len(things)) - 1]


def all_pairs(things, links):
    """All pairs (earlier, later) that follow from the links, in the order of the things."""
    masks = earlier_masks(things, links)
    for middle in range(len(things)):
        for at in range(len(things)):
            if masks[at] & (1 << middle):
                masks[at] |= masks[middle]
    pairs = []
    for at, earlier in enumerate(things):
        for later, mask in zip(things, masks):
            if mask & (1 << at):
                pairs.append((earlier, later))
    return pairs
