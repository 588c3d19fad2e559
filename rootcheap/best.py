"""The next best trees, in order, and how much more a road would make one cost."""

from heapq import heappop, heappush

from rootcheap.cheapest import cheapest
from rootcheap.errors import NoRoad
from rootcheap.maps import roads_by_number
from rootcheap.parts import first_among, least_with, least_without, with_no_other, without


def best(chart, many):
    """The first so many of all trees, each with what it costs."""
    tree, cost, _ = cheapest(chart)
    known = roads_by_number(chart)
    # Each part of the trees that are not told yet, by its first tree. No tree is
    # of two parts, so the first of these is the next of all.
    queue = [(cost, tree, list(known))]
    found = []
    while queue and len(found) < many:
        cost, tree, kept = heappop(queue)
        found.append((tree, cost))
        for part in parts_beside(tree, {road: known[road] for road in kept}):
            first = first_among(chart.size(), chart.begin(), part)
            if first is not None:
                heappush(queue, (first[0], first[1], list(part)))
    return found


def parts_beside(tree, roads):
    """The roads of parts: each other tree of these roads is of just one of them."""
    parts = []
    # The first part lacks the tree's first road; the next one has it and lacks the second.
    for road in tree:
        parts.append(without(roads, road))
        roads = with_no_other(roads, road)
    return parts


def margin(chart, road):
    """Whether a road is of the cheapest tree, and what it costs to have it otherwise."""
    if not 0 <= road < len(chart.roads()):
        raise NoRoad(f"no road has the number {road}")
    tree, cost, _ = cheapest(chart)
    if road in tree:
        return "in", how_much_more(least_without(chart, road), cost)
    return "out", how_much_more(least_with(chart, road), cost)


def how_much_more(least, cost):
    """By how much one cost is more than another; None where there is none."""
    if least is None:
        return None
    return least - cost
