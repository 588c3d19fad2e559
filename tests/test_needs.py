import unittest

from helper import all_trees, in_order, some_map, trees_by_lists, whole_map
from rootcheap.best import best, margin
from rootcheap.cheapest import cheapest
from rootcheap.errors import NoTree, RootError
from rootcheap.maps import Map
from rootcheap.needs import always, roots

MOST = 10 ** 9


class Told(unittest.TestCase):
    """What holds of whatever `always` tells."""

    def told(self, chart):
        answer = always(chart)
        self.assertIs(type(answer), tuple)
        self.assertEqual(len(answer), 3)
        for roads in answer:
            self.assertIs(type(roads), list)
            self.assertEqual(roads, sorted(roads))
        self.assertEqual(sorted(sum(answer, [])), list(range(len(chart.roads()))))
        return answer


class Always(Told):
    """Point 10, of `always`, on maps whose answer is plain."""

    def test_an_ordinary_map(self):
        chart = Map(4, 0, [(0, 1, 5), (1, 2, 3), (0, 2, 9), (1, 2, 3), (2, 3, 1), (0, 3, 8), (3, 1, 0)])
        self.assertEqual(self.told(chart), ([0, 4], [1, 3], [2, 5, 6]))

    def test_one_place(self):
        self.assertEqual(self.told(Map(1, 0, [])), ([], [], []))

    def test_all_costs_0(self):
        chart = Map(4, 0, [(0, 1, 0), (1, 2, 0), (2, 1, 0), (0, 2, 0), (2, 3, 0), (3, 0, 0), (3, 2, 0)])
        # No tree has 5, which leads into the root, or 6: 3 is led to by way of 2 alone.
        self.assertEqual(self.told(chart), ([4], [0, 1, 2, 3], [5, 6]))

    def test_all_the_same(self):
        chart = Map(2, 0, [(0, 1, MOST)] * 60)
        self.assertEqual(self.told(chart), ([], list(range(60)), []))

    def test_the_only_tree(self):
        roads = [(at, at + 1, 3) for at in range(19)] + [(at + 1, at, 0) for at in range(19)]
        self.assertEqual(self.told(Map(20, 0, roads)), (list(range(19)), [], list(range(19, 38))))

    def test_a_dearer_tree_does_not_count(self):
        chart = Map(2, 0, [(0, 1, 5), (0, 1, 4), (0, 1, 5)])
        self.assertEqual(self.told(chart), ([1], [], [0, 2]))

    def test_as_cheap_by_another_circle(self):
        chart = Map(3, 0, [(1, 2, 1), (2, 1, 1), (0, 1, 10), (0, 2, 10)])
        self.assertEqual(self.told(chart), ([], [0, 1, 2, 3], []))
        chart = Map(3, 0, [(1, 2, 1), (2, 1, 1), (0, 1, 10), (0, 2, 11)])
        self.assertEqual(self.told(chart), ([0, 2], [], [1, 3]))

    def test_refused_where_no_tree_is(self):
        for chart, left in [
            (Map(2, 0, []), [1]),
            (Map(3, 1, [(0, 1, 1), (2, 1, 1)]), [0, 2]),
            (Map(5, 2, [(2, 4, 1), (4, 0, 1), (1, 3, 2), (3, 1, 2)]), [1, 3]),
        ]:
            with self.assertRaises(NoTree) as caught:
                always(chart)
            self.assertEqual(caught.exception.left, left)
            self.assertIsInstance(caught.exception, RootError)


class AlwaysAgainstAllTrees(Told):
    """Point 10, of `always`, held against every cheapest tree."""

    def held(self, chart, trees):
        trees = [tree for tree, cost in trees if cost == trees[0][1]]
        in_all, in_some, in_none = [], [], []
        for road in range(len(chart.roads())):
            count = sum(road in tree for tree in trees)
            where = in_none if count == 0 else in_all if count == len(trees) else in_some
            where.append(road)
        self.assertEqual(self.told(chart), (in_all, in_some, in_none), (chart.begin(), chart.roads()))

    def test_small_maps(self):
        refused = 0
        for costs in [1, 2, 3, 10, MOST + 1]:
            charts = [some_map(seed + 3000, 5, 10, costs) for seed in range(60)]
            charts += [whole_map(seed + 3000, 4, 10, costs) for seed in range(20)]
            charts += [whole_map(seed + 3000, 5, 11, costs) for seed in range(20)]
            for chart in charts:
                trees = in_order(chart, all_trees(chart))
                if trees:
                    self.held(chart, trees)
                else:
                    refused += 1
                    with self.assertRaises(NoTree):
                        always(chart)
        self.assertGreater(refused, 10)

    def test_great_maps_of_few_trees(self):
        for seed in range(12):
            chart = whole_map(seed + 3000, 20, 27, [1, 2, 5, MOST + 1][seed % 4])
            self.held(chart, in_order(chart, trees_by_lists(chart)))

    def test_great_maps_of_few_cheapest_trees(self):
        held = 0
        for seed in range(12):
            chart = whole_map(seed + 4000, 20, 60, 40)
            trees = best(chart, 60)
            if trees[-1][1] > trees[0][1]:
                held += 1
                self.held(chart, trees)
        self.assertGreater(held, 5)

    def test_great_maps_by_margins(self):
        for seed in range(5):
            for costs in [1, 3, 100, MOST + 1]:
                chart = whole_map(seed + 5000, 20, 60, costs)
                expected = ([], [], [])
                for road in range(60):
                    where, more = margin(chart, road)
                    at = 1 if more == 0 else 0 if where == "in" else 2
                    expected[at].append(road)
                self.assertEqual(self.told(chart), expected)


class Roots(unittest.TestCase):
    """Point 10, of `roots`."""

    def test_an_ordinary_map(self):
        chart = Map(3, 0, [(0, 1, 5), (1, 2, 3), (2, 0, 4), (2, 1, 2), (1, 0, 9)])
        answer = roots(chart)
        self.assertEqual(answer, [8, 7, 6])
        self.assertIs(type(answer), list)

    def test_none_where_there_would_be_no_tree(self):
        chart = Map(4, 0, [(0, 1, 5), (1, 0, 2), (1, 2, 3), (0, 3, 1), (2, 3, 7)])
        self.assertEqual(roots(chart), [9, 6, None, None])

    def test_a_map_with_no_tree_from_its_own_root(self):
        chart = Map(3, 2, [(0, 1, 5), (1, 2, 3), (1, 0, 1)])
        self.assertEqual(roots(chart), [8, 4, None])
        with self.assertRaises(NoTree):
            cheapest(chart)

    def test_no_roads(self):
        self.assertEqual(roots(Map(1, 0, [])), [0])
        self.assertEqual(roots(Map(2, 1, [])), [None, None])
        self.assertEqual(roots(Map(20, 4, [])), [None] * 20)

    def test_a_tree_that_costs_nothing_is_not_none(self):
        self.assertEqual(roots(Map(2, 0, [(0, 1, 0)])), [0, None])

    def test_a_ring(self):
        chart = Map(20, 7, [(at, (at + 1) % 20, at + 1) for at in range(20)])
        # From each place the road back into it is spared.
        self.assertEqual(roots(chart), [210 - (at or 20) for at in range(20)])

    def test_whatever_the_root_is(self):
        for seed in range(10):
            chart = whole_map(seed, 9, 40, 50)
            expected = roots(chart)
            for root in range(9):
                self.assertEqual(roots(Map(9, root, chart.roads())), expected)

    def by_cheapest(self, chart):
        costs = []
        for place in range(chart.size()):
            try:
                costs.append(cheapest(Map(chart.size(), place, chart.roads()))[1])
            except NoTree:
                costs.append(None)
        return costs

    def test_against_the_cheapest_from_each_place(self):
        without_own = 0
        for costs in [1, 3, 50, MOST + 1]:
            charts = [some_map(seed + 6000, 7, 20, costs) for seed in range(50)]
            charts += [whole_map(seed + 6000, 20, 60, costs) for seed in range(8)]
            for chart in charts:
                answer = roots(chart)
                self.assertEqual(answer, self.by_cheapest(chart))
                without_own += answer[chart.begin()] is None and answer != [None] * chart.size()
        self.assertGreater(without_own, 5)

    def test_against_all_trees_from_each_place(self):
        for seed in range(40):
            chart = some_map(seed + 7000, 4, 9, 6)
            for place, cost in enumerate(roots(chart)):
                moved = Map(chart.size(), place, chart.roads())
                trees = in_order(moved, all_trees(moved))
                self.assertEqual(cost, trees[0][1] if trees else None)


if __name__ == "__main__":
    unittest.main()
