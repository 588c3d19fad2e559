import unittest

from helper import all_trees, reached, some_map
from rootcheap.errors import BadMap, RootError
from rootcheap.maps import Map, cost_of, is_tree

MOST = 10 ** 9
ROAD = (0, 1, 5)


class Maps(unittest.TestCase):
    """Point 2: what a map may be, and what it tells of itself."""

    def tells(self, many, root, roads):
        chart = Map(many, root, list(roads))
        self.assertEqual(chart.size(), many)
        self.assertEqual(chart.begin(), root)
        self.assertEqual(chart.roads(), roads)
        self.assertIs(type(chart.roads()), list)
        for road in chart.roads():
            self.assertIs(type(road), tuple)

    def test_an_ordinary_map(self):
        self.tells(3, 2, [(2, 0, 7), (0, 1, 3), (1, 0, 2)])

    def test_the_least_map(self):
        self.tells(1, 0, [])

    def test_no_roads(self):
        self.tells(4, 3, [])

    def test_the_greatest_map(self):
        roads = [(at % 20, (at * 7 + 3) % 20, MOST - at) for at in range(60)]
        roads = [(begin, (goal + (begin == goal)) % 20, cost) for begin, goal, cost in roads]
        self.tells(20, 19, roads)
        self.tells(20, 0, roads)

    def test_costs_at_both_ends(self):
        self.tells(2, 0, [(0, 1, 0), (0, 1, MOST), (1, 0, MOST), (1, 0, 0)])

    def test_roads_in_unsorted_order_and_the_same_several_times(self):
        self.tells(3, 1, [(2, 0, 9), (1, 2, 4), (1, 2, 4), (0, 1, 1), (1, 2, 3)])


class Refusals(unittest.TestCase):
    """Point 3: what cannot be, and which word comes first."""

    def refused(self, at, why, many, root, roads):
        with self.assertRaises(BadMap) as caught:
            Map(many, root, roads)
        self.assertEqual((caught.exception.at, caught.exception.why), (at, why))
        self.assertIs(type(caught.exception.at), int)
        self.assertIs(type(caught.exception.why), str)
        self.assertIsInstance(caught.exception, RootError)

    def test_many(self):
        self.refused(0, "many", 0, 0, [])
        self.refused(0, "many", -1, 0, [])
        self.refused(0, "many", 21, 0, [])
        self.refused(0, "many", 1000, 3, [ROAD])

    def test_root(self):
        self.refused(0, "root", 1, 1, [])
        self.refused(0, "root", 3, -1, [])
        self.refused(0, "root", 3, 3, [ROAD])
        self.refused(0, "root", 20, 20, [])

    def test_roads(self):
        self.refused(0, "roads", 2, 0, [ROAD] * 61)
        self.refused(0, "roads", 20, 0, [ROAD] * 200)

    def test_place(self):
        for road in [(0, 0, 1), (2, 2, 1), (-1, 0, 1), (0, -1, 1), (3, 0, 1), (0, 3, 1), (7, 8, 1), (-2, -1, 1)]:
            self.refused(0, "place", 3, 0, [road])
            self.refused(2, "place", 3, 2, [ROAD, ROAD, road])

    def test_place_on_the_least_map(self):
        self.refused(0, "place", 1, 0, [(0, 0, 0)])
        self.refused(0, "place", 1, 0, [ROAD])

    def test_cost(self):
        for cost in [-1, -MOST, MOST + 1, MOST * MOST]:
            self.refused(0, "cost", 2, 0, [(0, 1, cost)])
            self.refused(1, "cost", 2, 0, [ROAD, (1, 0, cost)])
            self.refused(59, "cost", 2, 0, [ROAD] * 59 + [(0, 1, cost)])

    def test_many_comes_before_all(self):
        self.refused(0, "many", 0, 5, [ROAD] * 61)
        self.refused(0, "many", 21, 21, [(0, 0, -1)])
        self.refused(0, "many", 21, -1, [])

    def test_root_comes_before_roads(self):
        self.refused(0, "root", 2, 2, [ROAD] * 61)
        self.refused(0, "root", 2, -1, [(0, 0, -1)])

    def test_too_many_come_before_a_bad_one(self):
        self.refused(0, "roads", 2, 0, [(0, 0, -1)] * 61)
        self.refused(0, "roads", 2, 0, [ROAD, (0, 1, -1)] + [ROAD] * 59)

    def test_the_first_bad_road_whatever_is_bad(self):
        self.refused(1, "cost", 2, 0, [ROAD, (0, 1, -1), (1, 1, 1)])
        self.refused(1, "place", 2, 0, [ROAD, (0, 2, 1), (0, 1, -1)])
        self.refused(2, "place", 4, 0, [ROAD, ROAD, (0, 4, 1), (5, 4, 1)])
        self.refused(2, "cost", 4, 0, [ROAD, ROAD, (0, 1, -1), (0, 1, -2)])

    def test_place_comes_before_cost_on_one_road(self):
        self.refused(0, "place", 2, 0, [(1, 1, -1)])
        self.refused(1, "place", 2, 0, [ROAD, (0, 2, MOST + 1)])
        self.refused(0, "place", 2, 0, [(-1, 1, -5)])


class Trees(unittest.TestCase):
    """Point 4: `is_tree`."""

    def setUp(self):
        self.chart = Map(4, 1, [(1, 0, 5), (0, 2, 1), (2, 3, 1), (3, 2, 1), (1, 3, 9), (2, 1, 0), (1, 0, 5)])

    def test_trees(self):
        for tree in [[0, 1, 2], [0, 1, 4], [0, 3, 4], [1, 2, 6], [1, 4, 6], [3, 4, 6]]:
            self.assertIs(is_tree(self.chart, tree), True)

    def test_in_any_order(self):
        for tree in [[2, 1, 0], [1, 0, 2], [4, 3, 0], [6, 4, 1]]:
            self.assertIs(is_tree(self.chart, tree), True)

    def test_a_circle_off_the_root(self):
        self.assertIs(is_tree(self.chart, [0, 2, 3]), False)

    def test_a_road_into_the_root(self):
        self.assertIs(is_tree(self.chart, [0, 1, 5]), False)
        self.assertIs(is_tree(self.chart, [0, 1, 2, 5]), False)

    def test_two_roads_into_a_place(self):
        self.assertIs(is_tree(self.chart, [0, 4, 6]), False)
        self.assertIs(is_tree(self.chart, [1, 3, 4]), False)

    def test_too_few_and_too_many(self):
        for roads in [[], [0], [0, 1], [0, 1, 2, 4], [0, 1, 2, 6], [0, 1, 2, 3, 4, 5, 6]]:
            self.assertIs(is_tree(self.chart, roads), False)

    def test_named_twice(self):
        for roads in [[0, 1, 1], [0, 0, 4], [0, 1, 2, 2], [0, 0, 1, 2], [4, 4, 4]]:
            self.assertIs(is_tree(self.chart, roads), False)

    def test_numbers_that_are_no_roads(self):
        for roads in [[0, 1, 7], [0, 1, 700], [0, 1, -5], [-7, 1, 2], [0, -6, 2], [0, 1, 2, -1], [0, 1, 2, 7]]:
            self.assertIs(is_tree(self.chart, roads), False)
        self.assertIs(is_tree(Map(2, 0, [(0, 1, 1)]), [-1]), False)
        self.assertIs(is_tree(Map(2, 0, [(0, 1, 1)]), [1]), False)
        self.assertIs(is_tree(Map(2, 0, []), [0]), False)
        self.assertIs(is_tree(Map(2, 0, []), [-1]), False)

    def test_one_place(self):
        self.assertIs(is_tree(Map(1, 0, []), []), True)
        self.assertIs(is_tree(Map(1, 0, []), [0]), False)
        self.assertIs(is_tree(Map(1, 0, []), [-1]), False)

    def test_where_no_tree_is(self):
        self.assertIs(is_tree(Map(3, 0, [(1, 2, 1), (2, 1, 1)]), [0, 1]), False)
        self.assertIs(is_tree(Map(3, 0, []), []), False)

    def test_roads_lead_one_way(self):
        self.assertIs(is_tree(Map(3, 0, [(0, 1, 1), (2, 1, 1)]), [0, 1]), False)
        self.assertIs(is_tree(Map(2, 1, [(0, 1, 1)]), [0]), False)

    def test_the_greatest_map(self):
        chain = [(at, at + 1, 1) for at in range(19)]
        chart = Map(20, 0, chain + [(19, at, 1) for at in range(19)] + [(0, 19, 1)] * 22)
        self.assertIs(is_tree(chart, list(range(19))), True)
        self.assertIs(is_tree(chart, list(range(18, -1, -1))), True)
        self.assertIs(is_tree(chart, list(range(18)) + [59]), True)
        self.assertIs(is_tree(chart, list(range(1, 20))), False)
        self.assertIs(is_tree(chart, list(range(20, 38)) + [59]), True)
        self.assertIs(is_tree(chart, list(range(20, 38)) + [18]), False)
        self.assertIs(is_tree(chart, list(range(18)) + [60]), False)

    def test_every_list_of_small_maps(self):
        for seed in range(60):
            chart = some_map(seed, 4, 6, 5)
            trees = all_trees(chart)
            top = 1 << len(chart.roads())
            for bits in range(top):
                roads = [road for road in range(len(chart.roads())) if bits >> road & 1]
                self.assertIs(is_tree(chart, roads), roads in trees, (chart.roads(), roads))

    def test_just_one_road_leads_into_each_place(self):
        for seed in range(40):
            chart = some_map(seed, 5, 9, 5)
            for tree in all_trees(chart):
                goals = sorted(chart.roads()[road][1] for road in tree)
                self.assertEqual(goals, [at for at in range(chart.size()) if at != chart.begin()])
                self.assertEqual(len(reached(chart.size(), chart.begin(), chart.roads())), chart.size())


class Costs(unittest.TestCase):
    """Point 4: `cost_of`."""

    def setUp(self):
        self.chart = Map(3, 0, [(0, 1, 5), (1, 2, 70), (2, 0, 0), (0, 2, MOST)])

    def test_some_roads(self):
        self.assertEqual(cost_of(self.chart, [0, 1]), 75)
        self.assertEqual(cost_of(self.chart, [1, 0]), 75)
        self.assertEqual(cost_of(self.chart, [3]), MOST)
        self.assertEqual(cost_of(self.chart, [0, 1, 2, 3]), MOST + 75)

    def test_no_roads(self):
        self.assertEqual(cost_of(self.chart, []), 0)
        self.assertEqual(cost_of(Map(1, 0, []), []), 0)

    def test_a_road_named_twice_counts_twice(self):
        self.assertEqual(cost_of(self.chart, [0, 0]), 10)
        self.assertEqual(cost_of(self.chart, [1, 0, 1, 1]), 215)

    def test_roads_that_are_no_tree_and_maps_without_one(self):
        self.assertEqual(cost_of(self.chart, [2]), 0)
        self.assertEqual(cost_of(Map(3, 0, [(1, 2, 4), (2, 1, 6)]), [0, 1]), 10)

    def test_great_costs(self):
        chart = Map(2, 0, [(0, 1, MOST)] * 60)
        self.assertEqual(cost_of(chart, list(range(60))), 60 * MOST)


if __name__ == "__main__":
    unittest.main()
