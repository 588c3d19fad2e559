"""Which roads the cheapest trees need, and what another root would cost."""

from rootcheap.cheapest import cheapest
from rootcheap.maps import roads_by_number
from rootcheap.parts import least_among, least_with, least_without


def always(chart):
    """The roads that all, that some but not all, and that none of the cheapest trees have."""
    cost = cheapest(chart)[1]
    of_all, of_some, of_none = [], [], []
    for road in range(len(chart.roads())):
        if least_with(chart, road) != cost:
            of_none.append(road)
        elif least_without(chart, road) != cost:
            of_all.append(road)
        else:
            of_some.append(road)
    return of_all, of_some, of_none


def roots(chart):
    """For each place what the cheapest tree from it costs, None where there is none."""
    roads = roads_by_number(chart)
    return [least_among(chart.size(), place, roads) for place in range(chart.size())]
