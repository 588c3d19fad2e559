import unittest
from itertools import islice, product

from helper import (
    all_trees, best_by_choices, cost_by_hand, in_order, onward_map, reached, some_map, trees_by_lists, whole_map,
    with_cost,
)
from rootcheap.best import best, margin
from rootcheap.cheapest import cheapest
from rootcheap.errors import NoRoad, NoTree, RootError
from rootcheap.maps import Map, is_tree

MOST = 10 ** 9


class Told(unittest.TestCase):
    """What holds of whatever `best` tells."""

    def told(self, chart, many):
        answer = best(chart, many)
        self.assertIs(type(answer), list)
        self.assertTrue(1 <= len(answer) <= many)
        for pair in answer:
            self.assertIs(type(pair), tuple)
            tree, cost = pair
            self.assertIs(type(tree), list)
            self.assertIs(type(cost), int)
            self.assertEqual(tree, sorted(tree))
            self.assertIs(is_tree(chart, tree), True)
            self.assertEqual(cost, cost_by_hand(chart, tree))
        order = [(cost, tree) for tree, cost in answer]
        for one, other in zip(order, order[1:]):
            self.assertLess(one, other)
        self.assertEqual(answer[0], cheapest(chart)[:2])
        return answer


class Ordinary(Told):
    """Point 8 on maps whose answer is plain."""

    def setUp(self):
        self.chart = Map(3, 0, [(0, 1, 5), (0, 2, 9), (1, 2, 3), (2, 1, 1), (2, 0, 0), (1, 2, 4)])
        self.trees = [([0, 2], 8), ([0, 5], 9), ([1, 3], 10), ([0, 1], 14)]

    def test_the_first_so_many(self):
        for many in range(1, 5):
            self.assertEqual(self.told(self.chart, many), self.trees[:many])

    def test_all_where_there_are_no_more(self):
        for many in [5, 6, 100, MOST]:
            self.assertEqual(self.told(self.chart, many), self.trees)

    def test_one_place(self):
        for many in [1, 2, 50]:
            self.assertEqual(self.told(Map(1, 0, []), many), [([], 0)])

    def test_several_roads_from_the_same_place_to_the_same(self):
        chart = Map(2, 1, [(1, 0, 6), (1, 0, 4), (0, 1, 0), (1, 0, 6), (1, 0, 4), (1, 0, 5)])
        trees = [([1], 4), ([4], 4), ([5], 5), ([0], 6), ([3], 6)]
        for many in range(1, 7):
            self.assertEqual(self.told(chart, many), trees[:many])

    def test_roads_into_the_root_are_of_no_tree(self):
        chart = Map(3, 1, [(0, 1, 0), (1, 0, 8), (2, 1, 0), (0, 2, 2), (2, 0, 1), (2, 1, 0)])
        self.assertEqual(self.told(chart, 9), [([1, 3], 10)])

    def test_costs_of_0(self):
        chart = Map(3, 0, [(2, 1, 0), (1, 2, 0), (0, 1, 0), (0, 2, 0)])
        self.assertEqual(self.told(chart, 9), [([0, 3], 0), ([1, 2], 0), ([2, 3], 0)])

    def test_costs_go_before_lists(self):
        chart = Map(3, 0, [(0, 1, 2), (0, 1, 1), (0, 2, 2), (0, 2, 1)])
        self.assertEqual(self.told(chart, 9), [([1, 3], 2), ([0, 3], 3), ([1, 2], 3), ([0, 2], 4)])

    def test_no_circle_is_told(self):
        chart = Map(3, 0, [(1, 2, 0), (2, 1, 0), (0, 1, 9), (0, 2, 9)])
        self.assertEqual(self.told(chart, 9), [([0, 2], 9), ([1, 3], 9), ([2, 3], 18)])

    def test_refused_where_no_tree_is(self):
        for many in [1, 5]:
            for chart, left in [
                (Map(3, 1, []), [0, 2]),
                (Map(4, 0, [(0, 3, 1), (1, 2, 1), (2, 1, 1), (1, 0, 1)]), [1, 2]),
                (Map(2, 0, [(1, 0, 5)]), [1]),
            ]:
                with self.assertRaises(NoTree) as caught:
                    best(chart, many)
                self.assertEqual(caught.exception.left, left)
                self.assertIsInstance(caught.exception, RootError)


class AgainstAllTrees(Told):
    """Point 8 on small maps, held against every list of roads."""

    def held(self, chart):
        trees = in_order(chart, all_trees(chart))
        if not trees:
            found = reached(chart.size(), chart.begin(), chart.roads())
            with self.assertRaises(NoTree) as caught:
                best(chart, 3)
            self.assertEqual(caught.exception.left, [at for at in range(chart.size()) if at not in found])
            return
        for many in {1, 2, 3, len(trees) // 2, len(trees) - 1, len(trees), len(trees) + 1, 10 * len(trees)} - {0}:
            self.assertEqual(self.told(chart, many), trees[:many], (chart.begin(), chart.roads()))

    def test_small_maps_of_any_kind(self):
        for costs in [1, 2, 4, MOST + 1]:
            for seed in range(60):
                self.held(some_map(seed + 1000, 5, 10, costs))

    def test_small_maps_with_trees(self):
        for costs in [1, 2, 3, 10, MOST + 1]:
            for seed in range(15):
                self.held(whole_map(seed + 1000, 4, 10, costs))
                self.held(whole_map(seed + 1000, 5, 11, costs))


class Great(Told):
    """Point 8 on maps up to the greatest."""

    def test_onward_maps_of_any_costs(self):
        for seed in range(4):
            for costs in [1, 2, 6, 1000, MOST + 1]:
                chart = onward_map(seed, 20, 60, costs)
                self.assertEqual(self.told(chart, 40), best_by_choices(chart, 40))

    def test_whose_trees_all_cost_the_same(self):
        for seed in range(6):
            for cost in [0, 7, MOST]:
                chart = whole_map(seed, 20, 60, 1)
                chart = Map(20, chart.begin(), [(begin, goal, cost) for begin, goal, _ in chart.roads()])
                first = [(tree, 19 * cost) for tree in islice(trees_by_lists(chart), 25)]
                self.assertEqual(self.told(chart, 25), first)

    def test_a_star_whose_trees_all_cost_the_same(self):
        roads = [(0, at, 3) for at in range(1, 20) for _ in range(3)]
        choices = product(*[range(at, at + 3) for at in range(0, 57, 3)])
        self.assertEqual(self.told(Map(20, 0, roads), 100), [(list(tree), 57) for tree in islice(choices, 100)])

    def test_few_trees_of_many_places_all_of_them(self):
        least = 0
        for seed in range(12):
            chart = whole_map(seed, 20, 26, [1, 3, 50, MOST + 1][seed % 4])
            trees = in_order(chart, trees_by_lists(chart))
            least += len(trees) > 5
            for many in [1, len(trees), len(trees) + 1]:
                self.assertEqual(self.told(chart, many), trees[:many])
        self.assertGreater(least, 6)

    def test_circles(self):
        # Two places each way, so that either of each pair may be entered first.
        roads = []
        for at in range(1, 19, 2):
            roads += [(at, at + 1, 1), (at + 1, at, 1), (0, at, 10 + at), (0, at + 1, 10 + at)]
        chart = Map(19, 0, roads)
        told = self.told(chart, 2 ** 9 + 1)
        least = sum(11 + at for at in range(1, 19, 2))
        pairs = product(*[[[at, at + 2], [at + 1, at + 3]] for at in range(0, 36, 4)])
        trees = sorted(sorted(sum(pair, [])) for pair in pairs)
        # Not by assertEqual, which is very slow at showing how long lists differ.
        self.assertTrue(told[:-1] == [(tree, least) for tree in trees])
        self.assertEqual(told[-1][1], least + 10)

    def test_the_first_is_the_cheapest(self):
        for seed in range(20):
            for costs in [1, 3, 100, MOST + 1]:
                self.told(whole_map(seed + 70, 20, 60, costs), 1)

    def test_fewer_are_the_first_of_more(self):
        for seed in range(3):
            chart = whole_map(seed + 30, 20, 60, 4)
            more = self.told(chart, 60)
            self.assertEqual(len(more), 60)
            for many in [1, 2, 7, 33, 59]:
                self.assertEqual(best(chart, many), more[:many])


class Margins(unittest.TestCase):
    """Point 9 on maps whose answer is plain."""

    def test_in_and_out(self):
        # The trees cost 8, 9, 10 and 14.
        chart = Map(3, 0, [(0, 1, 5), (0, 2, 9), (1, 2, 3), (2, 1, 1), (1, 2, 4)])
        told = [margin(chart, road) for road in range(5)]
        self.assertEqual(told, [("in", 2), ("out", 2), ("in", 1), ("out", 2), ("out", 1)])
        for pair in told:
            self.assertIs(type(pair), tuple)
            self.assertIs(type(pair[1]), int)

    def test_a_road_without_which_there_is_no_tree(self):
        chart = Map(3, 0, [(0, 1, 5), (1, 2, 3), (1, 2, 4), (2, 1, 0)])
        self.assertEqual(margin(chart, 0), ("in", None))
        self.assertEqual(margin(chart, 1), ("in", 1))
        self.assertEqual(margin(Map(2, 1, [(1, 0, 0)]), 0), ("in", None))

    def test_a_road_that_no_tree_has(self):
        chart = Map(4, 0, [(0, 1, 5), (1, 0, 0), (1, 2, 3), (2, 1, 0), (1, 3, 1), (3, 2, 2), (2, 0, 1)])
        self.assertEqual(margin(chart, 1), ("out", None))
        self.assertEqual(margin(chart, 6), ("out", None))
        # Place 2 is led to by way of place 1 alone.
        self.assertEqual(margin(chart, 3), ("out", None))
        for road, told in [(0, ("in", None)), (2, ("out", 1)), (4, ("in", None)), (5, ("in", 1))]:
            self.assertEqual(margin(chart, road), told)

    def test_roads_into_the_root_though_others_are_there(self):
        chart = Map(2, 0, [(1, 0, 1), (1, 0, 1), (0, 1, 4)])
        self.assertEqual([margin(chart, road) for road in range(3)], [("out", None), ("out", None), ("in", None)])

    def test_roads_that_cost_as_much_as_one_another(self):
        chart = Map(2, 0, [(0, 1, 4), (0, 1, 4), (0, 1, 6)])
        self.assertEqual([margin(chart, road) for road in range(3)], [("in", 0), ("out", 0), ("out", 2)])

    def test_of_the_first_tree_of_several(self):
        chart = Map(3, 0, [(1, 2, 4), (0, 1, 4), (2, 1, 4), (0, 2, 4)])
        self.assertEqual([margin(chart, road) for road in range(4)], [("in", 0), ("in", 0), ("out", 0), ("out", 0)])

    def test_a_road_out_of_it_may_change_many_others(self):
        roads = [(0, 1, 0), (1, 2, 0), (2, 3, 0), (3, 2, 0), (2, 1, 0), (0, 3, 50), (0, 2, 70)]
        chart = Map(4, 0, roads)
        self.assertEqual(margin(chart, 4), ("out", 50))
        self.assertEqual(margin(chart, 3), ("out", 50))
        self.assertEqual(margin(chart, 5), ("out", 50))
        self.assertEqual(margin(chart, 0), ("in", 50))

    def test_no_costs(self):
        chart = Map(3, 2, [(2, 0, 0), (2, 1, 0), (0, 1, 0), (1, 0, 0)])
        self.assertEqual([margin(chart, road)[1] for road in range(4)], [0] * 4)
        self.assertEqual([margin(chart, road)[0] for road in range(4)], ["in", "in", "out", "out"])


class MarginRefusals(unittest.TestCase):
    """Points 5 and 9: NoRoad, ahead of NoTree."""

    def no_road(self, chart, road):
        with self.assertRaises(NoRoad) as caught:
            margin(chart, road)
        self.assertIsInstance(caught.exception, RootError)

    def test_a_number_that_is_no_road(self):
        chart = Map(3, 0, [(0, 1, 5), (0, 2, 9), (1, 2, 3)])
        for road in [3, 4, 60, MOST, -1, -2, -3, -4, -MOST]:
            self.no_road(chart, road)
        for road in [0, 2]:
            self.assertEqual(margin(chart, road)[0], "in")

    def test_on_a_map_without_a_tree(self):
        chart = Map(3, 0, [(1, 2, 5), (2, 1, 9)])
        for road in [2, 60, -1, -2, -3]:
            self.no_road(chart, road)
        for road in [0, 1, -1]:
            self.no_road(Map(3, 0, []), road)

    def test_on_a_map_without_roads(self):
        for road in [0, 1, -1]:
            self.no_road(Map(1, 0, []), road)

    def test_no_tree(self):
        chart = Map(4, 3, [(1, 2, 5), (2, 1, 9), (3, 0, 1), (0, 3, 0)])
        for road in range(4):
            with self.assertRaises(NoTree) as caught:
                margin(chart, road)
            self.assertEqual(caught.exception.left, [1, 2])

    def test_the_last_road_of_the_greatest_map(self):
        chart = Map(2, 0, [(0, 1, 60 - at) for at in range(60)])
        self.assertEqual(margin(chart, 59), ("in", 1))
        self.assertEqual(margin(chart, 0), ("out", 59))
        self.no_road(chart, 60)


class MarginsAgainstAllTrees(unittest.TestCase):
    """Point 9 on small maps, held against every list of roads."""

    def held(self, chart):
        trees = in_order(chart, all_trees(chart))
        if not trees:
            return
        first, least = trees[0]
        for road in range(len(chart.roads())):
            inside = road in first
            costs = [cost for tree, cost in trees if (road in tree) != inside]
            more = min(costs) - least if costs else None
            self.assertEqual(margin(chart, road), ("in" if inside else "out", more), (chart.begin(), chart.roads()))

    def test_small_maps(self):
        for costs in [1, 2, 4, 30, MOST + 1]:
            for seed in range(50):
                self.held(some_map(seed + 2000, 5, 10, costs))
                self.held(whole_map(seed + 2000, 4, 9, costs))
            for seed in range(10):
                self.held(whole_map(seed + 2000, 5, 12, costs))


class GreatMargins(unittest.TestCase):
    """Point 9 on great maps: what the tree costs where a road's cost is another."""

    def least(self, chart, road, cost):
        return cheapest(with_cost(chart, road, cost))[1]

    def test_a_road_changed_by_its_margin(self):
        seen = {"in": 0, "out": 0}
        for seed in range(6):
            for costs in [2, 10, 1000, MOST // 20]:
                chart = whole_map(seed + 300, 20, 60, costs)
                tree, least, _ = cheapest(chart)
                for road, (_, _, cost) in enumerate(chart.roads()):
                    where, more = margin(chart, road)
                    self.assertEqual(where, "in" if road in tree else "out")
                    if more is None:
                        continue
                    self.assertGreaterEqual(more, 0)
                    if where == "in":
                        self.dearer(chart, road, cost, more, least)
                        seen["in"] += 1
                    elif more <= cost:
                        self.cheaper(chart, road, cost, more, least)
                        seen["out"] += 1
        self.assertGreater(min(seen.values()), 100)

    def dearer(self, chart, road, cost, more, least):
        self.assertEqual(self.least(chart, road, cost + more), least + more)
        self.assertEqual(self.least(chart, road, cost + more + 1), least + more)
        if more > 0:
            self.assertEqual(self.least(chart, road, cost + more - 1), least + more - 1)

    def cheaper(self, chart, road, cost, more, least):
        self.assertEqual(self.least(chart, road, cost - more), least)
        if more < cost:
            self.assertEqual(self.least(chart, road, cost - more - 1), least - 1)

    def test_none_where_the_greatest_change_is_too_small(self):
        # A road of the tree that can cost any more is always kept; one that is free and out has no tree.
        for seed in range(6):
            chart = whole_map(seed + 300, 20, 40, 10)
            least = cheapest(chart)[1]
            for road, (_, _, cost) in enumerate(chart.roads()):
                where, more = margin(chart, road)
                if more is None and where == "in":
                    self.assertEqual(self.least(chart, road, MOST), least - cost + MOST)
                if more is None and where == "out":
                    self.assertEqual(self.least(chart, road, 0), least)

    def test_the_second_tree_is_the_least_margin_of_the_first(self):
        for seed in range(10):
            chart = whole_map(seed + 900, 20, 60, 50)
            (tree, least), (_, second) = best(chart, 2)
            margins = [margin(chart, road)[1] for road in tree]
            self.assertEqual(second - least, min(more for more in margins if more is not None))


if __name__ == "__main__":
    unittest.main()
