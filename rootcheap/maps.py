"""Maps of roads that lead one way, and what a tree of them is."""

from rootcheap.errors import BadMap

MOST_PLACES = 20
MOST_ROADS = 60
MOST_COST = 10 ** 9


class Map:
    """Places, one of them the root, and roads (begin, goal, cost)."""

    def __init__(self, many, root, roads):
        check_map(many, root, roads)
        self._many = many
        self._root = root
        self._roads = list(roads)

    def size(self):
        """How many places there are."""
        return self._many

    def begin(self):
        """The root."""
        return self._root

    def roads(self):
        """The roads, as they were handed in."""
        return list(self._roads)


def roads_by_number(chart):
    """The roads of a map as a dict, numbers rising."""
    return dict(enumerate(chart.roads()))


def check_map(many, root, roads):
    """Refuse with the first thing by which this cannot be a map."""
    if not 1 <= many <= MOST_PLACES:
        raise BadMap(0, "many")
    if not 0 <= root < many:
        raise BadMap(0, "root")
    if len(roads) > MOST_ROADS:
        raise BadMap(0, "roads")
    for at, (begin, goal, cost) in enumerate(roads):
        if begin == goal or not 0 <= begin < many or not 0 <= goal < many:
            raise BadMap(at, "place")
        check_cost(at, cost)


def check_cost(road, cost):
    """Refuse a cost that no road can have."""
    if not 0 <= cost <= MOST_COST:
        raise BadMap(road, "cost")


def left_out(many, root, roads):
    """The places to which none of these roads lead from the root, rising."""
    goals = [[] for _ in range(many)]
    for begin, goal, _ in roads:
        goals[begin].append(goal)
    reached = [place == root for place in range(many)]
    waiting = [root]
    while waiting:
        here = waiting.pop()
        for goal in goals[here]:
            if not reached[goal]:
                reached[goal] = True
                waiting.append(goal)
    return [place for place in range(many) if not reached[place]]


def is_tree(chart, roads):
    """Whether these numbers, in any order, are the roads of a tree."""
    known = chart.roads()
    if len(roads) != chart.size() - 1:
        return False
    # A number below 0 would be taken for a road from the list's end.
    if not all(0 <= road < len(known) for road in roads):
        return False
    # So few that reach every place are unlike, and lead into each just once.
    return left_out(chart.size(), chart.begin(), [known[road] for road in roads]) == []


def cost_of(chart, roads):
    """What these roads of the map cost together, each time one is named."""
    known = chart.roads()
    return sum([known[road][2] for road in roads])
