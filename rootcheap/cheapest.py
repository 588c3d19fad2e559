"""The first of the cheapest trees, and prices that show that none is cheaper.

The way is Edmonds' with prices: each place pays for its cheapest entering
road; places that pay for each other in a circle are one group from then on,
which pays for the cheapest road that enters it. What is paid is taken off
all roads that enter.

What is paid is a pair (cost, rank), less by cost, then by rank. The ranks
tell trees of the same cost apart. The first numbers of these pairs alone
are prices as the map's costs ask for: pairs that don't go beyond a pair
don't go beyond it by their first numbers either.
"""

from rootcheap.errors import NoTree
from rootcheap.maps import MOST_ROADS, left_out, roads_by_number


def cheapest(chart):
    """The first cheapest tree, what it costs, and prices that show it."""
    return cheapest_among(chart.size(), chart.begin(), roads_by_number(chart))


def cheapest_among(many, root, roads):
    """The same of some roads, a dict of their numbers to (begin, goal, cost)."""
    left = left_out(many, root, list(roads.values()))
    if left:
        raise NoTree(left)
    payments = pay_roads(many, root, roads)
    tree = tree_paid(payments, roads)
    whole = sum([roads[road][2] for road in tree])
    prices = sorted([(group, price) for group, price, _ in payments if price > 0])
    return tree, whole, prices


def pay_roads(many, root, roads):
    """Tell (group, price, road) for each payment, groups within others first."""
    into = roads_into(many, roads)
    rest = {road: (roads[road][2], rank(road)) for road in roads}
    done = [place == root for place in range(many)]
    payments = []
    for place in range(many):
        path = []
        begin = place
        while not done[begin]:
            path = path_with(path, begin)
            group = path[-1]
            entering = [road for member in group for road in into[member] if roads[road][0] not in group]
            price, paid = pay(entering, rest)
            payments.append((group, price, paid))
            begin = roads[paid][0]
        for group in path:
            for member in group:
                done[member] = True
    return payments


def roads_into(many, roads):
    """For each place the numbers of the roads that lead into it."""
    into = [[] for _ in range(many)]
    for road in roads:
        into[roads[road][1]].append(road)
    return into


def rank(road):
    """A number that makes the tree with the less list the less in sum."""
    # Of two trees that is first which has the first road that they don't share;
    # so that road has to weigh more than all that come after it.
    return -(1 << (MOST_ROADS - road))


def path_with(path, place):
    """The path of groups, on to a place; to one of its own: the circle as one."""
    for at, group in enumerate(path):
        if place in group:
            circle = sorted([member for part in path[at:] for member in part])
            return path[:at] + [tuple(circle)]
    return path + [(place,)]


def pay(entering, rest):
    """Take the least rest off what each entering road still costs.

    Tells the price and the road that is paid for.
    """
    paid = min(entering, key=lambda road: rest[road])
    price, paid_rank = rest[paid]
    for road in entering:
        cost, road_rank = rest[road]
        rest[road] = (cost - price, road_rank - paid_rank)
    return price, paid


def tree_paid(payments, roads):
    """The roads that enter each group that paid just once, rising."""
    tree = []
    entered = {}
    # From the last one back, so that a group comes before those within it: the
    # road by which it is entered is the one by which they are, too.
    for group, _, road in reversed(payments):
        if not any(place in entered for place in group):
            tree.append(road)
            entered[roads[road][1]] = True
    return sorted(tree)


def is_shown(chart, whole, prices):
    """Whether these prices show that no tree costs less than a number."""
    for places, price in prices:
        if price < 0 or not may_be_priced(chart, places):
            return False
    for begin, goal, cost in chart.roads():
        entered = [price for places, price in prices if goal in places and begin not in places]
        if sum(entered) > cost:
            return False
    return sum([price for _, price in prices]) >= whole


def may_be_priced(chart, places):
    """Whether these are places of the map, one at least, none the root."""
    if len(places) == 0 or chart.begin() in places:
        return False
    return all(0 <= place < chart.size() for place in places)
