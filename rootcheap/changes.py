"""How one tree becomes another one, a road at a time."""

from rootcheap.errors import NoRoad
from rootcheap.maps import is_tree


def changes(chart, one, other):
    """Pairs of a road that leaves and the one that comes, those nearest to the root first."""
    check_tree(chart, one)
    check_tree(chart, other)
    leaving = road_into(chart, one)
    coming = road_into(chart, other)
    # By this order all that leads to a place in the other tree is there before
    # the place is entered anew, so that it is still led to from the root.
    order = sorted([(steps_to(chart, coming, place), place) for place in coming])
    return [(leaving[place], coming[place]) for _, place in order if leaving[place] != coming[place]]


def check_tree(chart, roads):
    """Refuse what is no tree of the map."""
    if not is_tree(chart, roads):
        raise NoRoad(f"no tree of the map: {roads}")


def road_into(chart, tree):
    """For each place but the root the road of a tree that leads into it."""
    known = chart.roads()
    return {known[road][1]: road for road in tree}


def steps_to(chart, entering, place):
    """How many roads of a tree lead to a place from the root."""
    known = chart.roads()
    steps = 0
    while place != chart.begin():
        place = known[entering[place]][0]
        steps += 1
    return steps


def halfway(chart, one, other):
    """All trees on the way from one to the other, with these."""
    pairs = changes(chart, one, other)
    tree = sorted(one)
    found = [tree]
    for leaves, comes in pairs:
        tree = sorted([road for road in tree if road != leaves] + [comes])
        found.append(tree)
    return found
