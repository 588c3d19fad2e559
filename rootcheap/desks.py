"""A desk at which the roads of a map change, and what that does to the cheapest tree."""

from rootcheap.cheapest import cheapest_among
from rootcheap.errors import NoRoad
from rootcheap.maps import check_cost, roads_by_number
from rootcheap.parts import without


class Desk:
    """The roads of a map, of which some stand, at first all."""

    def __init__(self, chart):
        self._many = chart.size()
        self._root = chart.begin()
        self._ends = [(begin, goal) for begin, goal, _ in chart.roads()]
        self._stand = roads_by_number(chart)
        self._tree = self.now()[0]

    def cost(self, road, cost):
        """Give a standing road another cost."""
        self._check_stands(road)
        return self._change(self._with_cost(road, cost))

    def gone(self, road):
        """Take a standing road out."""
        self._check_stands(road)
        return self._change(without(self._stand, road))

    def back(self, road, cost):
        """Put a road that is gone in again, at a cost."""
        if not 0 <= road < len(self._ends) or road in self._stand:
            raise NoRoad(f"no road {road} is gone")
        return self._change(self._with_cost(road, cost))

    def now(self):
        """The first cheapest tree of the roads that stand, its cost, and prices."""
        return cheapest_among(self._many, self._root, self._stand)

    def standing(self):
        """The roads that stand, each with its cost."""
        return {road: self._stand[road][2] for road in self._stand}

    def _check_stands(self, road):
        """Refuse a number of no road, or of one that is gone."""
        if road not in self._stand:
            raise NoRoad(f"no road {road} stands")

    def _with_cost(self, road, cost):
        """The roads that stand, with this one at this cost."""
        check_cost(road, cost)
        begin, goal = self._ends[road]
        roads = {**self._stand, road: (begin, goal, cost)}
        # By their numbers again, so that no answer is by the order of the changes.
        return {number: roads[number] for number in sorted(roads)}

    def _change(self, roads):
        """Let these roads stand; tell which leave the tree and which come into it."""
        # The new tree comes first: where there is none, all stays as it is.
        tree = cheapest_among(self._many, self._root, roads)[0]
        leaving = [road for road in self._tree if road not in tree]
        coming = [road for road in tree if road not in self._tree]
        self._stand = roads
        self._tree = tree
        return leaving, coming
