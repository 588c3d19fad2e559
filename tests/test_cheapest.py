import unittest

from helper import all_trees, cost_by_hand, first_by_trial, reached, some_map, whole_map
from rootcheap.cheapest import cheapest, is_shown
from rootcheap.errors import NoTree, RootError
from rootcheap.maps import Map, cost_of, is_tree

MOST = 10 ** 9


def enters(road, places):
    return road[1] in places and road[0] not in places


class Told(unittest.TestCase):
    """What holds of whatever `cheapest` tells."""

    def told(self, chart):
        answer = cheapest(chart)
        self.assertIs(type(answer), tuple)
        tree, cost, prices = answer
        self.assertIs(type(tree), list)
        self.assertIs(type(cost), int)
        self.assertIs(type(prices), list)
        self.assertEqual(tree, sorted(tree))
        self.assertIs(is_tree(chart, tree), True)
        self.assertEqual(cost, cost_by_hand(chart, tree))
        self.assertEqual(cost, cost_of(chart, tree))
        self.prices_hold(chart, cost, prices)
        return tree, cost

    def prices_hold(self, chart, cost, prices):
        """Each sentence of point 6 of the prices."""
        self.assertEqual(prices, sorted(prices))
        self.assertEqual(len({places for places, _ in prices}), len(prices))
        for pair in prices:
            self.assertIs(type(pair), tuple)
            places, price = pair
            self.assertIs(type(places), tuple)
            self.assertIs(type(price), int)
            self.assertGreaterEqual(price, 1)
            self.assertGreater(len(places), 0)
            self.assertEqual(list(places), sorted(set(places)))
            self.assertNotIn(chart.begin(), places)
            self.assertTrue(0 <= places[0] and places[-1] < chart.size())
        for road in chart.roads():
            self.assertLessEqual(sum(price for places, price in prices if enters(road, places)), road[2])
        self.assertEqual(sum(price for _, price in prices), cost)
        self.assertIs(is_shown(chart, cost, prices), True)
        self.assertIs(is_shown(chart, cost - 1, prices), True)
        self.assertIs(is_shown(chart, cost + 1, prices), False)


class Ordinary(Told):
    """Point 6 on maps whose answer is plain."""

    def test_two_ways(self):
        chart = Map(3, 0, [(0, 1, 5), (0, 2, 9), (1, 2, 3)])
        self.assertEqual(self.told(chart), ([0, 2], 8))

    def test_one_place(self):
        self.assertEqual(cheapest(Map(1, 0, [])), ([], 0, []))

    def test_two_places(self):
        self.assertEqual(cheapest(Map(2, 0, [(0, 1, 6)])), ([0], 6, [((1,), 6)]))
        self.assertEqual(cheapest(Map(2, 1, [(1, 0, 0)])), ([0], 0, []))

    def test_several_roads_from_the_same_place_to_the_same(self):
        chart = Map(2, 0, [(0, 1, 6), (0, 1, 4), (0, 1, 5), (0, 1, 4)])
        self.assertEqual(self.told(chart), ([1], 4))

    def test_roads_into_the_root_are_of_no_tree(self):
        chart = Map(3, 1, [(0, 1, 0), (1, 0, 8), (2, 1, 0), (0, 2, 2), (2, 0, 1)])
        self.assertEqual(self.told(chart), ([1, 3], 10))

    def test_a_circle_is_entered_where_it_is_cheapest(self):
        roads = [(1, 2, 1), (2, 3, 1), (3, 1, 1), (0, 1, 10), (0, 2, 9), (0, 3, 9)]
        self.assertEqual(self.told(Map(4, 0, roads)), ([0, 2, 5], 11))
        roads[3] = (0, 1, 7)
        self.assertEqual(self.told(Map(4, 0, roads)), ([0, 1, 3], 9))

    def test_a_cheaper_way_in_may_cost_more_within(self):
        # The circle's roads aren't alike: in by 2 is dearer, but saves 6 within.
        roads = [(1, 2, 6), (2, 1, 1), (0, 1, 10), (0, 2, 12)]
        self.assertEqual(self.told(Map(3, 0, roads)), ([1, 3], 13))

    def test_circles_within_circles(self):
        roads = [
            (1, 2, 1), (2, 1, 1), (3, 4, 1), (4, 3, 1), (2, 3, 5), (4, 1, 5),
            (0, 1, 100), (0, 4, 99), (0, 2, 100), (0, 3, 101),
        ]
        self.assertEqual(self.told(Map(5, 0, roads)), ([0, 3, 5, 7], 106))

    def test_ties_about_a_circle(self):
        # Every place can pay for two roads at once; in by C must not leave A and B in a circle.
        roads = [(1, 0, 2), (2, 0, 2), (0, 1, 2), (0, 2, 2), (3, 0, 9), (3, 1, 9), (3, 2, 5)]
        self.assertEqual(self.told(Map(4, 3, roads)), ([1, 2, 6], 9))

    def test_no_costs(self):
        chart = Map(4, 0, [(2, 3, 0), (3, 2, 0), (0, 3, 0), (0, 1, 0), (1, 2, 0)])
        self.assertEqual(cheapest(chart), ([0, 3, 4], 0, []))

    def test_the_cheapest_is_not_the_first_tree(self):
        chart = Map(3, 0, [(0, 1, 2), (0, 2, 2), (1, 2, 1), (0, 1, 1)])
        self.assertEqual(self.told(chart), ([2, 3], 2))


class First(Told):
    """Point 6: which of several trees that cost as little is told."""

    def test_the_less_list_is_told(self):
        chart = Map(3, 0, [(1, 2, 4), (0, 1, 4), (2, 1, 4), (0, 2, 4)])
        self.assertEqual(self.told(chart), ([0, 1], 8))
        chart = Map(3, 0, [(0, 2, 4), (2, 1, 4), (1, 2, 4), (0, 1, 4)])
        self.assertEqual(self.told(chart), ([0, 1], 8))

    def test_an_early_road_outweighs_all_late_ones(self):
        # [1, 2, 3] costs as much, but lacks road 0.
        roads = [(3, 1, 1), (0, 1, 1), (1, 2, 1), (1, 3, 1), (1, 2, 1), (0, 2, 1), (0, 3, 1)]
        self.assertEqual(self.told(Map(4, 0, roads)), ([0, 2, 6], 3))

    def test_a_late_road_may_be_of_the_first_tree(self):
        roads = [(2, 1, 3), (1, 2, 3)] + [(0, 1, 4)] * 30 + [(0, 2, 4)] * 28
        self.assertEqual(self.told(Map(3, 0, roads)), ([0, 32], 7))

    def test_many_roads_of_the_same_cost_on_the_greatest_maps(self):
        for seed in range(25):
            for costs in [1, 2, 3]:
                chart = whole_map(seed, 20, 60, costs)
                tree, _ = self.told(chart)
                self.assertEqual(tree, first_by_trial(chart))

    def test_great_costs_that_are_all_alike(self):
        for seed in range(10):
            chart = whole_map(seed, 20, 60, 1)
            chart = Map(20, chart.begin(), [(begin, goal, MOST) for begin, goal, _ in chart.roads()])
            tree, cost = self.told(chart)
            self.assertEqual(cost, 19 * MOST)
            self.assertEqual(tree, first_by_trial(chart))

    def test_costs_go_before_lists(self):
        # All late roads are one cheaper than all early ones.
        roads = [(at, at + 1, MOST) for at in range(19)] + [(at, at + 1, MOST - 1) for at in range(19)]
        self.assertEqual(self.told(Map(20, 0, roads)), (list(range(19, 38)), 19 * (MOST - 1)))
        roads = [(0, at, MOST) for at in range(1, 20)] + [(0, 19, MOST - 1)]
        self.assertEqual(self.told(Map(20, 0, roads)), (list(range(18)) + [19], 19 * MOST - 1))


class AgainstAllTrees(Told):
    """Point 6 on small maps, held against every list of roads."""

    def held(self, chart):
        trees = all_trees(chart)
        if not trees:
            found = reached(chart.size(), chart.begin(), chart.roads())
            with self.assertRaises(NoTree) as caught:
                cheapest(chart)
            self.assertEqual(caught.exception.left, [at for at in range(chart.size()) if at not in found])
            return 0
        best = min((cost_by_hand(chart, tree), tree) for tree in trees)
        tree, cost = self.told(chart)
        self.assertEqual((cost, tree), best)
        return 1

    def test_small_maps_of_any_kind(self):
        for costs in [1, 2, 4, 20, MOST + 1]:
            trees = sum(self.held(some_map(seed, 5, 10, costs)) for seed in range(120))
            self.assertTrue(15 < trees < 105, trees)

    def test_small_maps_with_trees(self):
        for costs in [1, 2, 3, 10, MOST + 1]:
            for seed in range(60):
                self.held(whole_map(seed, 5, 11, costs))
                self.held(whole_map(seed, 6, 12, costs))


class Great(Told):
    """Point 6 on maps up to the greatest."""

    def test_greatest_maps(self):
        for seed in range(40):
            for costs in [5, 100, MOST + 1]:
                self.told(whole_map(seed, 20, 60, costs))

    def test_the_first_on_great_maps(self):
        for seed in range(15):
            chart = whole_map(seed + 500, 12 + seed % 9, 60, 12)
            tree, _ = self.told(chart)
            self.assertEqual(tree, first_by_trial(chart))

    def test_a_long_chain_with_ways_back(self):
        roads = [(at + 1, at, 0) for at in range(19)] + [(at, at + 1, MOST - at) for at in range(19)]
        tree, cost = self.told(Map(20, 0, roads))
        self.assertEqual((tree, cost), (list(range(19, 38)), sum(MOST - at for at in range(19))))
        # From the other end the way is free.
        self.assertEqual(cheapest(Map(20, 19, roads)), (list(range(19)), 0, []))

    def test_circles_that_grow(self):
        # Each place pays least for the one before; the circle is paid for from farther out each time.
        roads = [(1, 2, 1), (2, 1, 1)]
        for at in range(3, 20):
            roads += [(at, at - 1, at * 10), (1, at, at)]
        roads.append((0, 19, MOST))
        roads += [(0, 1, MOST)] * (60 - len(roads))
        tree, cost = self.told(Map(20, 0, roads))
        straight = 1 + sum(range(3, 20)) + MOST
        self.assertEqual(cost, straight)
        self.assertEqual(tree, first_by_trial(Map(20, 0, roads)))

    def test_full_of_the_dearest_roads(self):
        roads = [(0, at, MOST) for at in range(1, 20)] * 3
        self.assertEqual(self.told(Map(20, 0, roads)), (list(range(19)), 19 * MOST))


class Nowhere(unittest.TestCase):
    """Point 5: NoTree tells the places to which no roads lead, rising."""

    def left(self, many, root, roads):
        with self.assertRaises(NoTree) as caught:
            cheapest(Map(many, root, roads))
        self.assertIsInstance(caught.exception, RootError)
        self.assertIs(type(caught.exception.left), list)
        return caught.exception.left

    def test_without_roads(self):
        self.assertEqual(self.left(2, 0, []), [1])
        self.assertEqual(self.left(2, 1, []), [0])
        self.assertEqual(self.left(20, 7, []), [at for at in range(20) if at != 7])

    def test_roads_into_the_root_alone(self):
        self.assertEqual(self.left(3, 1, [(0, 1, 1), (2, 1, 1)]), [0, 2])

    def test_a_circle_off_the_root(self):
        self.assertEqual(self.left(5, 0, [(0, 3, 1), (1, 2, 1), (2, 1, 1), (4, 2, 0), (2, 3, 0)]), [1, 2, 4])

    def test_some_places_only(self):
        self.assertEqual(self.left(5, 2, [(2, 4, 1), (4, 0, 1), (0, 2, 1), (0, 4, 1), (1, 3, 2), (3, 0, 2)]), [1, 3])

    def test_places_behind_one_that_is_left_are_left_too(self):
        self.assertEqual(self.left(4, 0, [(1, 2, 1), (2, 3, 1)]), [1, 2, 3])

    def test_a_long_chain_that_is_broken(self):
        roads = [(at, at + 1, MOST) for at in range(19) if at != 11]
        self.assertEqual(self.left(20, 0, roads), list(range(12, 20)))

    def test_what_does_not_refuse(self):
        chart = Map(3, 0, [(1, 2, 4)])
        self.assertIs(is_tree(chart, [0, 0]), False)
        self.assertEqual(cost_of(chart, [0, 0]), 8)
        self.assertIs(is_shown(chart, 100, [((1, 2), 100)]), True)
        self.assertIs(is_shown(chart, 1, []), False)


class Shown(unittest.TestCase):
    """Point 7: each condition broken alone."""

    def setUp(self):
        # The cheapest tree is [0, 2], for 8.
        self.chart = Map(4, 3, [(3, 1, 5), (3, 2, 9), (1, 2, 3), (2, 1, 2), (1, 0, 1), (1, 3, 0)])

    def shown(self, whole, prices):
        return is_shown(self.chart, whole, prices)

    def test_prices_that_show(self):
        prices = [((0,), 1), ((1,), 2), ((1, 2), 3), ((2,), 3)]
        self.assertIs(self.shown(9, prices), True)
        self.assertIs(self.shown(8, prices), True)
        self.assertIs(self.shown(-5, prices), True)
        self.assertIs(self.shown(10, prices), False)

    def test_in_any_order_and_places_too(self):
        self.assertIs(self.shown(9, [((2, 1), 3), ((2,), 3), ((1,), 2), ((0,), 1)]), True)
        self.assertIs(self.shown(10, [((2, 1), 3), ((2,), 3), ((1,), 2), ((0,), 1)]), False)

    def test_no_prices(self):
        self.assertIs(self.shown(0, []), True)
        self.assertIs(self.shown(-1, []), True)
        self.assertIs(self.shown(1, []), False)
        self.assertIs(is_shown(Map(1, 0, []), 0, []), True)
        self.assertIs(is_shown(Map(1, 0, []), 1, []), False)

    def test_a_price_below_0(self):
        self.assertIs(self.shown(1, [((1,), 2), ((2,), -1)]), False)
        self.assertIs(self.shown(1, [((2,), -1), ((1,), 2)]), False)
        self.assertIs(self.shown(-9, [((2,), -1)]), False)
        # Not even where it makes room for another one.
        self.assertIs(self.shown(5, [((1,), 6), ((0, 1, 2), -1)]), False)

    def test_a_price_of_0(self):
        self.assertIs(self.shown(2, [((1,), 2), ((2,), 0)]), True)

    def test_places_that_are_none(self):
        self.assertIs(self.shown(2, [((1,), 2), ((), 1)]), False)
        self.assertIs(self.shown(2, [((), 0), ((1,), 2)]), False)
        self.assertIs(self.shown(0, [((), 0)]), False)

    def test_the_root_among_places(self):
        self.assertIs(self.shown(2, [((1,), 2), ((2, 3), 1)]), False)
        self.assertIs(self.shown(0, [((3,), 0)]), False)
        self.assertIs(self.shown(1, [((0, 1, 2, 3), 1)]), False)
        self.assertIs(is_shown(Map(1, 0, []), 1, [((0,), 1)]), False)
        self.assertIs(is_shown(Map(1, 0, []), 0, [((0,), 0)]), False)

    def test_a_number_that_is_no_place(self):
        self.assertIs(self.shown(2, [((1,), 2), ((2, 4), 1)]), False)
        self.assertIs(self.shown(2, [((-1, 2), 1), ((1,), 2)]), False)
        self.assertIs(self.shown(0, [((4,), 0)]), False)
        self.assertIs(self.shown(0, [((-1,), 0)]), False)
        self.assertIs(self.shown(5, [((99,), 5)]), False)

    def test_more_than_a_road_costs(self):
        self.assertIs(self.shown(2, [((1,), 2)]), True)
        self.assertIs(self.shown(3, [((1,), 3)]), False)
        self.assertIs(self.shown(2, [((1,), 3)]), False)
        self.assertIs(self.shown(5, [((1,), 2), ((1, 2), 3)]), True)
        self.assertIs(self.shown(5, [((1,), 2), ((1, 2), 4)]), False)
        self.assertIs(self.shown(5, [((0, 1, 2), 5)]), True)
        self.assertIs(self.shown(5, [((0, 1, 2), 6)]), False)

    def test_the_same_places_twice_count_twice(self):
        self.assertIs(self.shown(2, [((1,), 1), ((1,), 1)]), True)
        self.assertIs(self.shown(2, [((1,), 1), ((1,), 2)]), False)

    def test_a_road_within_or_out_of_places_does_not_enter(self):
        chart = Map(3, 0, [(0, 1, 7), (1, 2, 0), (2, 1, 0), (1, 0, 0)])
        self.assertIs(is_shown(chart, 7, [((1, 2), 7)]), True)
        self.assertIs(is_shown(chart, 7, [((1, 2), 6), ((1,), 1)]), False)

    def test_each_road_by_itself(self):
        # The last road is the one that costs too little; then the first.
        chart = Map(2, 0, [(0, 1, 4), (0, 1, 3)])
        self.assertIs(is_shown(chart, 4, [((1,), 4)]), False)
        chart = Map(2, 0, [(0, 1, 3), (0, 1, 4)])
        self.assertIs(is_shown(chart, 4, [((1,), 4)]), False)
        self.assertIs(is_shown(chart, 3, [((1,), 3)]), True)

    def test_all_prices_together(self):
        chart = Map(20, 0, [(0, at, MOST) for at in range(1, 20)])
        prices = [((at,), MOST) for at in range(1, 20)]
        self.assertIs(is_shown(chart, 19 * MOST, prices), True)
        self.assertIs(is_shown(chart, 19 * MOST + 1, prices), False)

    def test_no_prices_show_more_than_the_cheapest_tree(self):
        for seed in range(30):
            chart = whole_map(seed, 5, 10, 6)
            tree, cost, prices = cheapest(chart)
            for at, (places, price) in enumerate(prices):
                more = prices[:at] + [(places, price + 1)] + prices[at + 1:]
                self.assertIs(is_shown(chart, cost, more), False)
                less = prices[:at] + [(places, price - 1)] + prices[at + 1:]
                self.assertIs(is_shown(chart, cost, less), False)
                self.assertIs(is_shown(chart, cost - 1, less), True)


if __name__ == "__main__":
    unittest.main()
