import unittest

from helper import Numbers, all_trees, some_map, whole_map
from rootcheap.best import best
from rootcheap.changes import changes, halfway
from rootcheap.errors import NoRoad, NoTree, RootError
from rootcheap.maps import Map, is_tree

MOST = 10 ** 9


class Told(unittest.TestCase):
    """What holds of whatever `changes` and `halfway` tell."""

    def told(self, chart, one, other):
        pairs = changes(chart, list(one), list(other))
        self.assertIs(type(pairs), list)
        for pair in pairs:
            self.assertIs(type(pair), tuple)
            self.assertEqual(len(pair), 2)
        self.assertEqual(pairs, self.pairs_by_hand(chart, one, other))
        self.way_holds(chart, one, other, pairs)
        return pairs

    def pairs_by_hand(self, chart, one, other):
        """Round by round, the places that the other tree reaches by one road more."""
        roads = chart.roads()
        pairs = []
        here = [chart.begin()]
        while here:
            entered = sorted((roads[road][1], road) for road in other if roads[road][0] in here)
            for place, comes in entered:
                leaves = [road for road in one if roads[road][1] == place]
                if leaves != [comes]:
                    pairs.append((leaves[0], comes))
            here = [place for place, _ in entered]
        return pairs

    def way_holds(self, chart, one, other, pairs):
        way = halfway(chart, list(one), list(other))
        self.assertIs(type(way), list)
        self.assertEqual(way[0], sorted(one))
        self.assertEqual(way[-1], sorted(other))
        self.assertEqual(len(way), len(pairs) + 1)
        for tree in way:
            self.assertIs(type(tree), list)
            self.assertEqual(tree, sorted(tree))
            self.assertIs(is_tree(chart, tree), True)
        for before, after, (leaves, comes) in zip(way, way[1:], pairs):
            self.assertEqual(set(before) - set(after), {leaves})
            self.assertEqual(set(after) - set(before), {comes})


class Ordinary(Told):
    """Point 11 on maps whose answer is plain."""

    def setUp(self):
        self.roads = [(0, 1, 5), (1, 2, 1), (2, 3, 1), (0, 3, 9), (3, 2, 4), (2, 1, 0), (3, 0, 0), (0, 2, 7)]
        self.chart = Map(4, 0, self.roads)

    def test_between_two_trees(self):
        # The chain by 1, 2, 3 becomes the one by 3, 2, 1.
        self.assertEqual(self.told(self.chart, [0, 1, 2], [3, 4, 5]), [(2, 3), (1, 4), (0, 5)])
        self.assertEqual(halfway(self.chart, [0, 1, 2], [3, 4, 5]), [[0, 1, 2], [0, 1, 3], [0, 3, 4], [3, 4, 5]])

    def test_the_way_back_is_in_another_order(self):
        self.assertEqual(self.told(self.chart, [3, 4, 5], [0, 1, 2]), [(5, 0), (4, 1), (3, 2)])
        self.assertEqual(halfway(self.chart, [3, 4, 5], [0, 1, 2]), [[3, 4, 5], [0, 3, 4], [0, 1, 3], [0, 1, 2]])

    def test_only_places_with_unlike_roads(self):
        self.assertEqual(self.told(self.chart, [0, 1, 2], [0, 1, 3]), [(2, 3)])
        self.assertEqual(self.told(self.chart, [0, 1, 2], [0, 2, 7]), [(1, 7)])
        self.assertEqual(halfway(self.chart, [0, 1, 2], [0, 2, 7]), [[0, 1, 2], [0, 2, 7]])

    def test_unlike_roads_between_the_same_places(self):
        chart = Map(3, 2, [(2, 1, 5), (2, 1, 5), (1, 0, 2), (1, 0, 2), (0, 2, 0)])
        self.assertEqual(self.told(chart, [0, 2], [1, 3]), [(0, 1), (2, 3)])
        self.assertEqual(halfway(chart, [0, 2], [1, 3]), [[0, 2], [1, 2], [1, 3]])

    def test_from_a_tree_to_itself(self):
        self.assertEqual(self.told(self.chart, [0, 1, 2], [0, 1, 2]), [])
        self.assertEqual(halfway(self.chart, [0, 1, 2], [0, 1, 2]), [[0, 1, 2]])
        self.assertEqual(halfway(self.chart, [2, 0, 1], [1, 2, 0]), [[0, 1, 2]])

    def test_trees_handed_in_in_another_order(self):
        for one in [[0, 1, 2], [2, 1, 0], [1, 2, 0]]:
            for other in [[3, 4, 5], [5, 4, 3], [4, 5, 3]]:
                self.assertEqual(self.told(self.chart, one, other), [(2, 3), (1, 4), (0, 5)])

    def test_one_place(self):
        chart = Map(1, 0, [])
        self.assertEqual(self.told(chart, [], []), [])
        self.assertEqual(halfway(chart, [], []), [[]])

    def test_steps_of_the_other_tree_go_before_places(self):
        # Place 1 is last in the other tree, place 3 the first; 2 and 4 stand between.
        roads = [(0, 1, 1), (0, 2, 1), (0, 3, 1), (0, 4, 1), (0, 3, 1), (3, 4, 1), (3, 2, 1), (4, 1, 1)]
        chart = Map(5, 0, roads)
        self.assertEqual(self.told(chart, [0, 1, 2, 3], [4, 5, 6, 7]), [(2, 4), (1, 6), (3, 5), (0, 7)])

    def test_places_in_order_where_as_many_roads_lead_to_them(self):
        # The numbers of the roads fall as the places rise, and the costs rise and fall.
        roads = [(0, 3, 4), (0, 2, 1), (0, 1, 3), (0, 3, 2), (0, 2, 9), (0, 1, 0)]
        chart = Map(4, 0, roads)
        self.assertEqual(self.told(chart, [0, 1, 2], [3, 4, 5]), [(2, 5), (1, 4), (0, 3)])
        self.assertEqual(self.told(chart, [3, 4, 5], [0, 1, 2]), [(5, 2), (4, 1), (3, 0)])

    def test_steps_count_roads_that_stay_too(self):
        # 1 keeps its road, 2 stands behind it; 3 is entered from the root and goes first.
        roads = [(0, 1, 1), (0, 2, 1), (1, 2, 1), (2, 3, 1), (0, 3, 1)]
        self.assertEqual(self.told(Map(4, 0, roads), [0, 1, 3], [0, 2, 4]), [(3, 4), (1, 2)])

    def test_a_long_chain_turned_about(self):
        ahead = [(0, 1, 1)] + [(at, at + 1, 1) for at in range(1, 19)]
        back = [(0, 19, 1)] + [(at + 1, at, 1) for at in range(18, 0, -1)]
        chart = Map(20, 0, ahead + back)
        pairs = self.told(chart, list(range(19)), list(range(19, 38)))
        self.assertEqual(pairs, [(18 - at, 19 + at) for at in range(19)])


class AnyTrees(Told):
    """Point 11 between any two trees."""

    def test_all_pairs_of_trees_of_small_maps(self):
        for seed in range(40):
            for chart in [some_map(seed + 8000, 5, 9, 5), whole_map(seed + 8000, 5, 10, 5)]:
                trees = all_trees(chart)[:16]
                for one in trees:
                    for other in trees:
                        self.told(chart, one, other)

    def test_trees_of_great_maps(self):
        for seed in range(6):
            numbers = Numbers(seed)
            first, second = [
                whole_map(seed + 100 * at, 20, 30, MOST + 1).roads() for at in [0, 1]
            ]
            chart = Map(20, numbers.below(20), first + second)
            self.between_some(chart)
            self.between_some(whole_map(seed, 20, 60, 3))

    def between_some(self, chart):
        try:
            trees = [tree for tree, _ in best(chart, 8)]
        except NoTree:
            return
        # The cheapest tree of quite other costs is quite another tree.
        roads = chart.roads()
        for turn in range(4):
            dear = [(begin, goal, (cost * (turn + 7) + goal * turn + begin) % 97) for begin, goal, cost in roads]
            trees += [tree for tree, _ in best(Map(20, chart.begin(), dear), 2)]
        for one in trees:
            for other in trees:
                self.told(chart, one, other[::-1])


class Refusals(unittest.TestCase):
    """Points 5 and 11: NoRoad for what is no tree, NoTree from nobody."""

    def refused(self, chart, one, other):
        for asked in [changes, halfway]:
            with self.assertRaises(NoRoad) as caught:
                asked(chart, one, other)
            self.assertIsInstance(caught.exception, RootError)

    def test_as_the_one_and_as_the_other(self):
        chart = Map(4, 1, [(1, 0, 5), (0, 2, 1), (2, 3, 1), (3, 2, 1), (1, 3, 9), (2, 1, 0), (1, 0, 5)])
        tree = [0, 1, 2]
        bad = [
            [], [0], [0, 1], [0, 1, 2, 4], [0, 1, 2, 2], [0, 1, 1], [0, 2, 3], [0, 1, 5], [0, 4, 6], [0, 1, 2, 5],
            [0, 1, 7], [0, 1, -5], [-7, 1, 2], [700, 1, 2], [-1, -2, -3], [0, 1, 2, 3, 4, 5, 6],
        ]
        for roads in bad:
            self.refused(chart, roads, tree)
            self.refused(chart, tree, roads)
            self.refused(chart, roads, roads)
        self.assertEqual(changes(chart, tree, tree), [])

    def test_a_map_without_a_tree(self):
        chart = Map(3, 0, [(1, 2, 1), (2, 1, 1)])
        for roads in [[], [0], [0, 1], [0, 0], [5, -1]]:
            self.refused(chart, roads, roads)
        self.refused(Map(2, 0, []), [], [])
        self.refused(Map(2, 0, []), [0], [0])

    def test_one_place(self):
        self.refused(Map(1, 0, []), [0], [])
        self.refused(Map(1, 0, []), [], [-1])

    def test_every_list_of_a_small_map(self):
        chart = whole_map(5, 4, 7, 5)
        trees = all_trees(chart)
        for bits in range(1 << 7):
            roads = [road for road in range(7) if bits >> road & 1]
            if roads in trees:
                self.assertEqual(changes(chart, roads, roads), [])
            else:
                self.refused(chart, roads, trees[0])
                self.refused(chart, trees[-1], roads)


if __name__ == "__main__":
    unittest.main()
