import copy
import unittest

from helper import Numbers, all_trees, in_order, reached, whole_map
from rootcheap.cheapest import cheapest, is_shown
from rootcheap.desks import Desk
from rootcheap.errors import BadMap, NoRoad, NoTree, RootError
from rootcheap.maps import Map

MOST = 10 ** 9
ROADS = [(0, 1, 5), (0, 2, 9), (1, 2, 3), (2, 1, 1), (2, 0, 0)]


def map_of(chart, standing):
    """The map of the roads that stand, under new numbers; and their own numbers."""
    kept = sorted(standing)
    rows = [chart.roads()[road][:2] + (standing[road],) for road in kept]
    return Map(chart.size(), chart.begin(), rows), kept


class AtDesks(unittest.TestCase):
    """A desk held, behind each change, against a map of the roads that stand."""

    def held(self, desk, chart, standing):
        """What is told of the roads that stand; tells the first cheapest tree."""
        self.assertEqual(desk.standing(), standing)
        self.assertIs(type(desk.standing()), dict)
        answer = desk.now()
        self.assertIs(type(answer), tuple)
        tree, cost, prices = answer
        alike, kept = map_of(chart, standing)
        expected = cheapest(alike)
        self.assertEqual((tree, cost), ([kept[road] for road in expected[0]], expected[1]))
        self.priced(alike, cost, prices)
        return tree

    def priced(self, chart, cost, prices):
        """That prices are as point 6 asks of these roads."""
        self.assertIs(type(prices), list)
        self.assertEqual(prices, sorted(prices))
        self.assertEqual(sum(price for _, price in prices), cost)
        self.assertTrue(is_shown(chart, cost, prices))
        for places, price in prices:
            self.assertIs(type(places), tuple)
            self.assertEqual(list(places), sorted(set(places)))
            self.assertGreaterEqual(price, 1)

    def lists(self, answer, before, after):
        """That a change tells how one tree became another one."""
        self.assertIs(type(answer), tuple)
        leaving, coming = answer
        self.assertIs(type(leaving), list)
        self.assertIs(type(coming), list)
        self.assertEqual(leaving, sorted(set(before) - set(after)))
        self.assertEqual(coming, sorted(set(after) - set(before)))


class Plain(AtDesks):
    """Point 12 on a map whose answers are plain."""

    def setUp(self):
        self.chart = Map(3, 0, list(ROADS))
        self.desk = Desk(self.chart)

    def stands(self, tree, cost, standing):
        self.assertEqual(self.desk.now()[:2], (tree, cost))
        self.held(self.desk, self.chart, standing)

    def test_at_first_all_stand(self):
        self.stands([0, 2], 8, {0: 5, 1: 9, 2: 3, 3: 1, 4: 0})

    def test_a_dearer_road_of_the_tree(self):
        self.assertEqual(self.desk.cost(0, 6), ([], []))
        self.stands([0, 2], 9, {0: 6, 1: 9, 2: 3, 3: 1, 4: 0})
        # At 7 the trees [0, 2] and [1, 3] both cost 10, so that the first one stays.
        self.assertEqual(self.desk.cost(0, 7), ([], []))
        self.stands([0, 2], 10, {0: 7, 1: 9, 2: 3, 3: 1, 4: 0})
        self.assertEqual(self.desk.cost(0, 8), ([0, 2], [1, 3]))
        self.stands([1, 3], 10, {0: 8, 1: 9, 2: 3, 3: 1, 4: 0})

    def test_a_cheaper_road_that_is_out(self):
        self.assertEqual(self.desk.cost(1, 3), ([0, 2], [1, 3]))
        self.stands([1, 3], 4, {0: 5, 1: 3, 2: 3, 3: 1, 4: 0})
        self.assertEqual(self.desk.cost(3, 5), ([3], [0]))
        self.stands([0, 1], 8, {0: 5, 1: 3, 2: 3, 3: 5, 4: 0})

    def test_a_cheaper_road_of_the_tree_and_a_dearer_one_that_is_out(self):
        self.assertEqual(self.desk.cost(2, 0), ([], []))
        self.stands([0, 2], 5, {0: 5, 1: 9, 2: 0, 3: 1, 4: 0})
        self.assertEqual(self.desk.cost(1, MOST), ([], []))
        self.stands([0, 2], 5, {0: 5, 1: MOST, 2: 0, 3: 1, 4: 0})

    def test_the_same_cost_again(self):
        for road, (_, _, cost) in enumerate(ROADS):
            self.assertEqual(self.desk.cost(road, cost), ([], []))
            self.stands([0, 2], 8, {0: 5, 1: 9, 2: 3, 3: 1, 4: 0})

    def test_a_road_of_the_tree_gone_and_back(self):
        self.assertEqual(self.desk.gone(0), ([0, 2], [1, 3]))
        self.stands([1, 3], 10, {1: 9, 2: 3, 3: 1, 4: 0})
        self.assertEqual(self.desk.back(0, 5), ([1, 3], [0, 2]))
        self.stands([0, 2], 8, {0: 5, 1: 9, 2: 3, 3: 1, 4: 0})

    def test_a_road_back_at_another_cost(self):
        self.assertEqual(self.desk.gone(0), ([0, 2], [1, 3]))
        self.assertEqual(self.desk.back(0, 8), ([], []))
        self.stands([1, 3], 10, {0: 8, 1: 9, 2: 3, 3: 1, 4: 0})
        self.assertEqual(self.desk.gone(0), ([], []))
        self.assertEqual(self.desk.back(0, 0), ([1, 3], [0, 2]))
        self.stands([0, 2], 3, {0: 0, 1: 9, 2: 3, 3: 1, 4: 0})

    def test_a_road_that_is_out_gone_and_back(self):
        self.assertEqual(self.desk.gone(1), ([], []))
        self.stands([0, 2], 8, {0: 5, 2: 3, 3: 1, 4: 0})
        self.assertEqual(self.desk.back(1, 2), ([0, 2], [1, 3]))
        self.stands([1, 3], 3, {0: 5, 1: 2, 2: 3, 3: 1, 4: 0})

    def test_a_road_into_the_root(self):
        self.assertEqual(self.desk.cost(4, MOST), ([], []))
        self.assertEqual(self.desk.gone(4), ([], []))
        self.stands([0, 2], 8, {0: 5, 1: 9, 2: 3, 3: 1})
        self.assertEqual(self.desk.back(4, 0), ([], []))
        self.stands([0, 2], 8, {0: 5, 1: 9, 2: 3, 3: 1, 4: 0})

    def test_roads_keep_their_numbers(self):
        self.desk.gone(1)
        self.desk.gone(3)
        self.stands([0, 2], 8, {0: 5, 2: 3, 4: 0})
        self.desk.back(3, 4)
        self.stands([0, 2], 8, {0: 5, 2: 3, 3: 4, 4: 0})
        self.assertEqual(list(self.desk.standing()), [0, 2, 3, 4])

    def test_the_first_of_trees_of_the_same_cost(self):
        self.assertEqual(self.desk.cost(1, 3), ([0, 2], [1, 3]))
        self.assertEqual(self.desk.cost(3, 3), ([], []))
        # Now [0, 1] and [0, 2] cost 6, as [1, 3] does.
        self.assertEqual(self.desk.cost(0, 3), ([3], [0]))
        self.stands([0, 1], 6, {0: 3, 1: 3, 2: 3, 3: 3, 4: 0})

    def test_changes_undone(self):
        steps = [
            (self.desk.cost(0, 8), lambda: self.desk.cost(0, 5)),
            (self.desk.gone(3), lambda: self.desk.back(3, 1)),
            (self.desk.cost(1, 0), lambda: self.desk.cost(1, 9)),
            (self.desk.gone(4), lambda: self.desk.back(4, 0)),
        ]
        for (leaving, coming), undo in reversed(steps):
            self.assertEqual(undo(), (coming, leaving))
        self.stands([0, 2], 8, {0: 5, 1: 9, 2: 3, 3: 1, 4: 0})


class OddMaps(AtDesks):
    """Point 12 on the edges of what maps may be."""

    def test_one_place(self):
        desk = Desk(Map(1, 0, []))
        self.assertEqual(desk.now(), ([], 0, []))
        self.assertEqual(desk.standing(), {})
        for asked in [lambda: desk.cost(0, 1), lambda: desk.gone(0), lambda: desk.back(0, 1)]:
            with self.assertRaises(NoRoad):
                asked()

    def test_roads_between_the_same_places(self):
        chart = Map(2, 0, [(0, 1, 4)] * 60)
        desk = Desk(chart)
        standing = {road: 4 for road in range(60)}
        for road in range(59):
            self.assertEqual(desk.gone(road), ([road], [road + 1]))
            del standing[road]
            self.held(desk, chart, standing)
        with self.assertRaises(NoTree):
            desk.gone(59)
        self.assertEqual(desk.back(30, 4), ([59], [30]))
        self.assertEqual(desk.back(7, 5), ([], []))
        self.assertEqual(desk.gone(30), ([30], [59]))
        self.assertEqual(desk.now(), ([59], 4, [((1,), 4)]))
        self.assertEqual(desk.standing(), {7: 5, 59: 4})

    def test_costs_of_0_and_the_greatest(self):
        desk = Desk(Map(2, 1, [(1, 0, 0), (1, 0, MOST)]))
        self.assertEqual(desk.now(), ([0], 0, []))
        self.assertEqual(desk.cost(0, MOST), ([], []))
        self.assertEqual(desk.now(), ([0], MOST, [((0,), MOST)]))
        self.assertEqual(desk.cost(1, 0), ([0], [1]))
        self.assertEqual(desk.gone(0), ([], []))
        self.assertEqual(desk.back(0, 0), ([1], [0]))
        self.assertEqual(desk.now(), ([0], 0, []))

    def test_many_roads_leave_and_come_at_once(self):
        # A ring with a way to either side: what is too dear at its begin is gone the other way.
        right = [(at, at + 1, 1) for at in range(19)]
        left = [((at + 1) % 20, at, 1) for at in range(1, 20)]
        desk = Desk(Map(20, 0, right + left))
        self.assertEqual(desk.now()[:2], (list(range(19)), 19))
        self.assertEqual(desk.cost(0, MOST), (list(range(19)), list(range(19, 38))))
        self.assertEqual(desk.cost(0, 1), (list(range(19, 38)), list(range(19))))

    def test_a_map_without_a_tree(self):
        for chart, left in [
            (Map(2, 0, []), [1]),
            (Map(3, 1, [(0, 1, 1), (2, 1, 1)]), [0, 2]),
            (Map(5, 2, [(2, 4, 1), (4, 0, 1), (1, 3, 2), (3, 1, 2)]), [1, 3]),
            (Map(20, 19, []), list(range(19))),
        ]:
            with self.assertRaises(NoTree) as caught:
                Desk(chart)
            self.assertEqual(caught.exception.left, left)
            self.assertIsInstance(caught.exception, RootError)


class Refused(AtDesks):
    """What a desk refuses, in which order, and that it changes nothing."""

    def setUp(self):
        self.chart = Map(4, 0, [(0, 1, 5), (1, 2, 3), (0, 2, 9), (2, 3, 1), (1, 0, 2), (2, 1, 0)])
        self.desk = Desk(self.chart)
        self.desk.gone(2)
        self.desk.gone(4)

    def refused(self, kind, asked):
        kept = copy.deepcopy((self.desk.now(), self.desk.standing()))
        with self.assertRaises(kind) as caught:
            asked()
        self.assertIs(type(caught.exception), kind)
        self.assertEqual((self.desk.now(), self.desk.standing()), kept)
        self.held(self.desk, self.chart, {0: 5, 1: 3, 3: 1, 5: 0})
        return caught.exception

    def test_no_road(self):
        for road in [6, 7, 60, 61, 10 ** 20, -1, -3, -6, -7, -(10 ** 20)]:
            self.refused(NoRoad, lambda: self.desk.cost(road, 4))
            self.refused(NoRoad, lambda: self.desk.gone(road))
            self.refused(NoRoad, lambda: self.desk.back(road, 4))

    def test_a_road_that_does_not_stand(self):
        for road in [2, 4]:
            self.refused(NoRoad, lambda: self.desk.cost(road, 4))
            self.refused(NoRoad, lambda: self.desk.gone(road))

    def test_a_road_that_stands(self):
        for road in [0, 1, 3, 5]:
            self.refused(NoRoad, lambda: self.desk.back(road, 4))

    def test_a_cost_beyond_the_limits(self):
        for cost in [-1, -MOST, MOST + 1, 10 ** 30]:
            for road in [0, 1, 3, 5]:
                bad = self.refused(BadMap, lambda: self.desk.cost(road, cost))
                self.assertEqual((bad.at, bad.why), (road, "cost"))
            for road in [2, 4]:
                bad = self.refused(BadMap, lambda: self.desk.back(road, cost))
                self.assertEqual((bad.at, bad.why), (road, "cost"))

    def test_no_road_ahead_of_the_cost(self):
        for cost in [-1, MOST + 1]:
            for road in [6, -1, -6, 2, 4]:
                self.refused(NoRoad, lambda: self.desk.cost(road, cost))
            for road in [6, -1, -6, 0, 1, 3, 5]:
                self.refused(NoRoad, lambda: self.desk.back(road, cost))

    def test_a_road_without_which_no_tree_is(self):
        for road, left in [(0, [1, 2, 3]), (1, [2, 3]), (3, [3])]:
            refusal = self.refused(NoTree, lambda: self.desk.gone(road))
            self.assertEqual(refusal.left, left)
            self.assertIs(type(refusal.left), list)

    def test_what_a_refusal_tells_may_be_changed(self):
        for _ in range(3):
            refusal = self.refused(NoTree, lambda: self.desk.gone(0))
            self.assertEqual(refusal.left, [1, 2, 3])
            refusal.left.clear()

    def test_the_limits_themselves_are_costs(self):
        self.assertEqual(self.desk.cost(0, MOST), ([], []))
        self.assertEqual(self.desk.cost(0, 0), ([], []))
        self.assertEqual(self.desk.back(2, MOST), ([], []))
        self.assertEqual(self.desk.cost(0, MOST), ([0, 1], [2, 5]))
        self.assertEqual(self.desk.gone(2), ([2, 5], [0, 1]))
        self.assertEqual(self.desk.back(2, 0), ([0, 1], [2, 5]))
        self.assertEqual(self.desk.standing(), {0: MOST, 1: 3, 2: 0, 3: 1, 5: 0})

    def test_it_goes_on_behind_refusals(self):
        for asked in [lambda: self.desk.gone(0), lambda: self.desk.cost(0, -1), lambda: self.desk.back(2, -1)]:
            with self.assertRaises(RootError):
                asked()
        self.assertEqual(self.desk.back(2, 1), ([0, 1], [2, 5]))
        self.held(self.desk, self.chart, {0: 5, 1: 3, 2: 1, 3: 1, 5: 0})


class Walks(AtDesks):
    """Point 12 through many changes, on maps by a fixed rule."""

    def refusal(self, chart, standing, road, wanted, cost):
        """What a change of a road is to be refused with, None where it isn't."""
        if not 0 <= road < len(chart.roads()) or (road in standing) != wanted:
            return NoRoad
        if not 0 <= cost <= MOST:
            return BadMap
        return None

    def step(self, numbers, desk, chart, standing, costs):
        """One change, by the numbers; tells the roads that stand then, with their costs."""
        road = numbers.below(len(chart.roads()) + 2) - 1
        cost = numbers.below(costs)
        if numbers.below(8) == 0:
            cost = [-1, MOST + 1][cost % 2]
        way = numbers.below(3)
        before = desk.now()[0]
        after = dict(standing)
        if way == 1:
            kind = self.refusal(chart, standing, road, True, 0)
            after.pop(road, None)
            asked = desk.gone, (road,)
        else:
            kind = self.refusal(chart, standing, road, way == 0, cost)
            after[road] = cost
            asked = [desk.cost, desk.back][way // 2], (road, cost)
        if kind is None:
            try:
                cheapest(map_of(chart, after)[0])
            except NoTree:
                kind = NoTree
        if kind is not None:
            with self.assertRaises(kind) as caught:
                asked[0](*asked[1])
            if kind is NoTree:
                alike, _ = map_of(chart, after)
                led_to = reached(alike.size(), alike.begin(), alike.roads())
                left = [place for place in range(alike.size()) if place not in led_to]
                self.assertEqual(caught.exception.left, left)
            self.held(desk, chart, standing)
            return standing, kind
        answer = asked[0](*asked[1])
        self.lists(answer, before, self.held(desk, chart, after))
        return after, None

    def walk(self, seed, chart, costs, steps):
        numbers = Numbers(seed)
        desk = Desk(chart)
        standing = {road: row[2] for road, row in enumerate(chart.roads())}
        met = []
        for _ in range(steps):
            standing, kind = self.step(numbers, desk, chart, standing, costs)
            met.append(kind)
        return met

    def test_small_maps(self):
        met = []
        for seed in range(30):
            chart = whole_map(seed + 10000, 2 + seed % 6, 14, 5)
            met += self.walk(seed, chart, [1, 2, 5, MOST + 1][seed % 4], 40)
        for kind in [None, NoRoad, BadMap, NoTree]:
            self.assertGreater(met.count(kind), 20, kind)

    def test_great_maps(self):
        for seed in range(8):
            costs = [1, 3, 20, MOST + 1][seed % 4]
            chart = whole_map(seed + 11000, 20, 60, costs)
            self.walk(seed, chart, costs, 80)

    def test_against_all_trees(self):
        for seed in range(20):
            chart = whole_map(seed + 12000, 4, 9, 4)
            numbers = Numbers(seed)
            desk = Desk(chart)
            standing = {road: row[2] for road, row in enumerate(chart.roads())}
            for _ in range(12):
                standing, _ = self.step(numbers, desk, chart, standing, 4)
                alike, kept = map_of(chart, standing)
                tree, cost = in_order(alike, all_trees(alike))[0]
                self.assertEqual(desk.now()[:2], ([kept[road] for road in tree], cost))

    def test_all_changes_undone(self):
        for seed in range(12):
            chart = whole_map(seed + 13000, [5, 20][seed % 2], [15, 60][seed % 2], 6)
            numbers = Numbers(seed)
            desk = Desk(chart)
            undone = []
            for _ in range(40):
                road, cost = numbers.below(len(chart.roads())), numbers.below(6)
                state = copy.deepcopy((desk.now(), desk.standing()))
                old = desk.standing().get(road)
                try:
                    if old is None:
                        undone.append((desk.back(road, cost), state, lambda road=road: desk.gone(road)))
                    elif numbers.below(2) == 0:
                        undone.append((desk.gone(road), state, lambda road=road, old=old: desk.back(road, old)))
                    else:
                        undone.append((desk.cost(road, cost), state, lambda road=road, old=old: desk.cost(road, old)))
                except NoTree:
                    self.assertEqual((desk.now(), desk.standing()), state)
            self.assertGreater(len(undone), 20)
            for (leaving, coming), state, undo in reversed(undone):
                self.assertEqual(undo(), (coming, leaving))
                self.assertEqual((desk.now(), desk.standing()), state)

    def test_what_stands_alone_counts(self):
        for seed in range(6):
            chart = whole_map(seed + 14000, 12, 40, 5)
            one, other = Desk(chart), Desk(chart)
            taken = [road for road in range(0, 40, 3)]
            for desk, order in [(one, taken), (other, taken[::-1])]:
                for road in order:
                    try:
                        desk.gone(road)
                    except NoTree:
                        pass
            for road in sorted(set(range(40)) - set(one.standing())):
                one.back(road, road % 4)
            for road in sorted(set(range(40)) - set(other.standing()), reverse=True):
                other.back(road, road % 4)
            for road in range(40):
                one.cost(road, road % 4)
                other.cost(39 - road, (39 - road) % 4)
            self.assertEqual((one.now(), one.standing()), (other.now(), other.standing()))


class Apart(AtDesks):
    """Point 1 at desks: what is kept and given back is a copy."""

    def test_two_desks_and_the_map(self):
        roads = list(ROADS)
        chart = Map(3, 0, roads)
        one, other = Desk(chart), Desk(chart)
        kept = copy.deepcopy((other.now(), other.standing(), cheapest(chart)))
        one.cost(0, 8)
        one.gone(2)
        one.cost(3, 0)
        self.assertEqual((other.now(), other.standing(), cheapest(chart)), kept)
        self.assertEqual((chart.roads(), roads), (ROADS, ROADS))
        state = copy.deepcopy((one.now(), one.standing()))
        other.gone(0)
        other.cost(1, 7)
        self.assertEqual((one.now(), one.standing()), state)
        self.assertEqual(cheapest(chart), kept[2])
        self.assertEqual(Desk(chart).standing(), {0: 5, 1: 9, 2: 3, 3: 1, 4: 0})

    def test_the_list_that_the_map_was_made_of(self):
        roads = list(ROADS)
        desk = Desk(Map(3, 0, roads))
        roads[0] = (0, 2, 0)
        roads.clear()
        self.assertEqual(desk.now()[:2], ([0, 2], 8))
        desk.gone(0)
        self.assertEqual(desk.back(0, 5), ([1, 3], [0, 2]))

    def test_what_is_told_may_be_changed(self):
        desk = Desk(Map(3, 0, list(ROADS)))
        kept = copy.deepcopy((desk.now(), desk.standing()))
        for _ in range(2):
            tree, _, prices = desk.now()
            tree.clear()
            prices.append(((1, 2), 50))
            standing = desk.standing()
            standing[0] = 99
            del standing[1]
            standing[7] = 3
            self.assertEqual((desk.now(), desk.standing()), kept)
        desk.standing().clear()
        self.assertEqual((desk.now(), desk.standing()), kept)
        self.assertEqual(desk.cost(0, 8), ([0, 2], [1, 3]))

    def test_the_lists_of_a_change_may_be_changed(self):
        desk = Desk(Map(3, 0, list(ROADS)))
        for lists in [desk.cost(0, 8), desk.cost(0, 5), desk.gone(0), desk.back(0, 5), desk.cost(0, 8)]:
            for roads in lists:
                roads.append(4)
                roads.reverse()
        self.assertEqual(desk.now()[:2], ([1, 3], 10))
        self.assertEqual(desk.gone(3), ([1, 3], [0, 2]))

    def test_two_lists_that_are_empty_are_not_the_same(self):
        desk = Desk(Map(3, 0, list(ROADS)))
        leaving, coming = desk.cost(0, 5)
        leaving.append(1)
        self.assertEqual(coming, [])
        self.assertEqual(desk.cost(0, 5), ([], []))

    def test_whatever_is_asked_may_be_asked_again(self):
        for seed in range(4):
            desk = Desk(whole_map(seed + 15000, 20, 60, 9))
            for road in [3, 30]:
                desk.cost(road, 10)
                first = copy.deepcopy((desk.now(), desk.standing()))
                for _ in range(3):
                    self.assertEqual((desk.now(), desk.standing()), first)


if __name__ == "__main__":
    unittest.main()
