"""What several tests share: trees found by trial, and maps by a fixed rule."""

from itertools import combinations

from rootcheap.cheapest import cheapest
from rootcheap.errors import NoTree
from rootcheap.maps import Map


class Numbers:
    """Numbers that look like chance and are the same in each run."""

    def __init__(self, seed):
        self.state = seed * 2654435761 + 12345

    def below(self, limit):
        self.state = (self.state * 6364136223846793005 + 1442695040888963407) % 2 ** 64
        return (self.state >> 33) % limit


def some_roads(numbers, places, roads, costs):
    """Roads between any unlike places, at costs from 0 to below a number."""
    found = []
    for _ in range(roads):
        begin = numbers.below(places)
        goal = (begin + 1 + numbers.below(places - 1)) % places
        found.append((begin, goal, numbers.below(costs)))
    return found


def some_map(seed, most_places, most_roads, costs):
    """A map that may have no tree."""
    numbers = Numbers(seed)
    places = 2 + numbers.below(most_places - 1)
    roads = some_roads(numbers, places, numbers.below(most_roads + 1), costs)
    return Map(places, numbers.below(places), roads)


def whole_map(seed, places, roads, costs):
    """A map from whose root roads lead to each place."""
    numbers = Numbers(seed)
    order = list(range(places))
    for at in range(places - 1, 0, -1):
        other = numbers.below(at + 1)
        order[at], order[other] = order[other], order[at]
    found = [(order[numbers.below(at)], order[at], numbers.below(costs)) for at in range(1, places)]
    found += some_roads(numbers, places, roads - len(found), costs)
    for at in range(len(found) - 1, 0, -1):
        other = numbers.below(at + 1)
        found[at], found[other] = found[other], found[at]
    return Map(places, order[0], found)


def reached(many, root, roads):
    """The places to which roads lead from the root, rising."""
    found = {root}
    for _ in range(many):
        found |= {goal for begin, goal, _ in roads if begin in found}
    return sorted(found)


def all_trees(chart):
    """Each tree of a map, in the order of the lists, by trying all lists."""
    many, root, roads = chart.size(), chart.begin(), chart.roads()
    return [
        list(chosen)
        for chosen in combinations(range(len(roads)), many - 1)
        if len(reached(many, root, [roads[road] for road in chosen])) == many
    ]


def cost_by_hand(chart, tree):
    return sum(chart.roads()[road][2] for road in tree)


def in_order(chart, trees):
    """Trees with their costs, as `best` is to tell them."""
    return [(tree, cost) for cost, tree in sorted((cost_by_hand(chart, tree), tree) for tree in trees)]


def trees_by_lists(chart):
    """Each tree of a map of any size, in the order of the lists, one at a time.

    Roads are taken or left in their order; what is left open must still reach all.
    """
    many, root, roads = chart.size(), chart.begin(), chart.roads()

    def trees(taken, at, open_roads):
        if len(reached(many, root, [roads[road] for road in open_roads])) < many:
            return
        if len(taken) == many - 1:
            yield list(taken)
            return
        later = [road for road in open_roads if road >= at and road not in taken]
        for road in later[:1]:
            fewer = [row for row in open_roads if row == road or roads[row][1] != roads[road][1]]
            yield from trees(taken + [road], road + 1, fewer)
            yield from trees(taken, road + 1, [row for row in open_roads if row != road])

    yield from trees([], 0, [road for road in range(len(roads)) if roads[road][1] != root])


def onward_map(seed, places, roads, costs):
    """A map whose roads all lead to greater places, so that any choice is a tree."""
    numbers = Numbers(seed)
    found = [(numbers.below(goal), goal, numbers.below(costs)) for goal in range(1, places)]
    while len(found) < roads:
        goal = 1 + numbers.below(places - 1)
        found.insert(numbers.below(len(found) + 1), (numbers.below(goal), goal, numbers.below(costs)))
    return Map(places, 0, found)


def best_by_choices(chart, many):
    """The first so many trees of an onward map, a place at a time."""
    roads = chart.roads()
    found = [(0, [])]
    for place in range(1, chart.size()):
        choices = [(road, row[2]) for road, row in enumerate(roads) if row[1] == place]
        found = sorted((cost + more, sorted(tree + [road])) for cost, tree in found for road, more in choices)[:many]
    return [(tree, cost) for cost, tree in found]


def with_cost(chart, road, cost):
    """The same map, but for what one road costs."""
    roads = chart.roads()
    roads[road] = (roads[road][0], roads[road][1], cost)
    return Map(chart.size(), chart.begin(), roads)


def first_by_trial(chart):
    """The first cheapest tree of a map of any size, a road at a time.

    A road is of it if, with those before it kept, some tree that has it costs
    as little as any. A tree has a road where no other one enters its goal.
    """
    roads = chart.roads()
    least = cheapest(chart)[1]
    kept = []
    for road, (_, goal, _) in enumerate(roads):
        if goal == chart.begin():
            continue
        goals = {roads[other][1]: other for other in kept}
        if goal in goals:
            continue
        goals[goal] = road
        fewer = [row for at, row in enumerate(roads) if goals.get(row[1], at) == at]
        try:
            cost = cheapest(Map(chart.size(), chart.begin(), fewer))[1]
        except NoTree:
            continue
        if cost == least:
            kept.append(road)
    return kept
