"""Parts of all trees: those that have a road, and those that don't.

A part is told by the roads that its trees may have. For the trees that have
a road these are all but the others into the same place: the tree must enter
that place by the one that is left.
"""

from rootcheap.cheapest import cheapest_among
from rootcheap.errors import NoTree
from rootcheap.maps import roads_by_number


def without(roads, road):
    """All roads but one, of a dict of numbers to (begin, goal, cost)."""
    return {other: roads[other] for other in roads if other != road}


def with_no_other(roads, road):
    """All roads but the others into the place that this one leads into."""
    goal = roads[road][1]
    return {other: roads[other] for other in roads if other == road or roads[other][1] != goal}


def first_among(many, root, roads):
    """What the first cheapest tree of some roads costs, and that tree; or None."""
    try:
        tree, cost, _ = cheapest_among(many, root, roads)
    except NoTree:
        return None
    return cost, tree


def least_among(many, root, roads):
    """What the cheapest tree of some roads costs, None where there is none."""
    first = first_among(many, root, roads)
    if first is None:
        return None
    return first[0]


def least_with(chart, road):
    """What the cheapest tree with a road costs, None where there is none."""
    roads = roads_by_number(chart)
    # A tree need not enter the root, so that it may lack the one road that is left.
    if roads[road][1] == chart.begin():
        return None
    return least_among(chart.size(), chart.begin(), with_no_other(roads, road))


def least_without(chart, road):
    """What the cheapest tree without a road costs, None where there is none."""
    return least_among(chart.size(), chart.begin(), without(roads_by_number(chart), road))
