import unittest
from fractions import Fraction

from helper import all_trees, onward_map, some_map, trees_by_lists, whole_map
from rootcheap.best import best
from rootcheap.counting import how_many
from rootcheap.errors import NoTree
from rootcheap.maps import Map

MOST = 10 ** 9


def chain(places, roads_each, root=0, step=1):
    """Each place but the root is led to from the one ahead, by so many roads."""
    roads = []
    for at in range(places - 1):
        begin = (root + at * step) % places
        roads += [(begin, (begin + step) % places, at)] * roads_each[at]
    return Map(places, root, roads)


def product_of(numbers):
    whole = 1
    for number in numbers:
        whole *= number
    return whole


class Plain(unittest.TestCase):
    """Point 8, of `how_many`, on maps whose count is plain."""

    def told(self, chart):
        count = how_many(chart)
        self.assertIs(type(count), int)
        return count

    def test_an_ordinary_map(self):
        chart = Map(3, 0, [(0, 1, 5), (0, 2, 9), (1, 2, 3), (2, 1, 1)])
        # 0 1, 0 2, 1 3
        self.assertEqual(self.told(chart), 3)

    def test_one_place(self):
        self.assertEqual(self.told(Map(1, 0, [])), 1)

    def test_none(self):
        for chart in [
            Map(2, 0, []),
            Map(2, 0, [(1, 0, 3)]),
            Map(2, 1, [(0, 1, 3), (0, 1, 3)]),
            Map(20, 7, []),
            Map(4, 0, [(1, 2, 1), (2, 1, 1), (0, 3, 1)]),
            Map(4, 0, [(1, 2, 1), (2, 3, 1), (3, 1, 1)]),
            Map(4, 3, [(1, 2, 1), (2, 1, 1), (3, 0, 1), (3, 0, 4), (1, 0, 1), (2, 3, 1)]),
            Map(20, 0, [(at, at + 1, 1) for at in range(1, 19)] + [(19, 1, 1)]),
        ]:
            self.assertEqual(self.told(chart), 0, chart.roads())
            with self.assertRaises(NoTree):
                best(chart, 1)

    def test_roads_between_the_same_places(self):
        self.assertEqual(self.told(Map(2, 0, [(0, 1, 4)] * 60)), 60)
        self.assertEqual(self.told(Map(2, 1, [(1, 0, 4), (1, 0, 0), (1, 0, 4)])), 3)

    def test_roads_into_the_root_change_nothing(self):
        chart = Map(3, 1, [(1, 0, 5), (1, 2, 9), (0, 2, 3), (2, 0, 1)])
        self.assertEqual(self.told(chart), 3)
        for more in [[(0, 1, 0)], [(2, 1, 7)], [(0, 1, 0), (2, 1, 0), (0, 1, 0)]]:
            self.assertEqual(self.told(Map(3, 1, chart.roads() + more)), 3)
            self.assertEqual(self.told(Map(3, 1, more + chart.roads())), 3)

    def test_costs_change_nothing(self):
        for seed in range(10):
            chart = whole_map(seed, 12, 40, 9)
            count = self.told(chart)
            for cost in [0, 1, MOST]:
                roads = [(begin, goal, cost) for begin, goal, _ in chart.roads()]
                self.assertEqual(self.told(Map(12, chart.begin(), roads)), count)

    def test_a_great_map_two_roads_for_each_place(self):
        self.assertEqual(self.told(chain(20, [2] * 19)), 2 ** 19)
        self.assertEqual(self.told(chain(20, [2] * 19, 11)), 2 ** 19)
        self.assertEqual(self.told(chain(20, [2] * 19, 5, 3)), 2 ** 19)

    def test_a_great_map_three_roads_for_each_place(self):
        self.assertEqual(self.told(chain(20, [3] * 19)), 3 ** 19)
        self.assertEqual(self.told(chain(20, [3] * 19, 19, 19)), 3 ** 19)

    def test_a_great_map_two_or_three_roads_for_each_place(self):
        for bits in [0b1010011010111001011, 0b0000000001111111111, 1, 1 << 18]:
            each = [3 if bits >> at & 1 else 2 for at in range(19)]
            for root, step in [(0, 1), (13, 1), (4, 7), (19, 11)]:
                self.assertEqual(self.told(chain(20, each, root, step)), product_of(each))

    def test_the_most_that_60_roads_can_be(self):
        # 3 into each place and one more into each of 3: the product at its greatest.
        each = [3] * 16 + [4] * 3
        self.assertEqual(self.told(chain(20, each, 2, 9)), 3 ** 16 * 4 ** 3)

    def test_a_chain_with_roads_back(self):
        # Roads that lead back along a chain are of no tree.
        roads = [(at, at + 1, 1) for at in range(19) for _ in range(2)] + [(at + 1, at, 0) for at in range(19)]
        self.assertEqual(self.told(Map(20, 0, roads)), 2 ** 19)

    def test_a_road_between_any_two_places(self):
        for places in range(2, 9):
            roads = [(one, other, 1) for one in range(places) for other in range(places) if one != other]
            self.assertEqual(self.told(Map(places, places // 2, roads)), places ** (places - 2))

    def test_a_wheel(self):
        # Around a hub: every second one of the numbers 2, 1, 3, 4, 7, .. less 2.
        one, other = 2, 1
        for rim in range(1, 16):
            one, other = one + other, one + 2 * other
            if rim >= 3:
                around = [(at + 1, (at + 1) % rim + 1, 1) for at in range(rim)]
                roads = [(0, at, 1) for at in range(1, rim + 1)] + around
                roads += [(goal, begin, cost) for begin, goal, cost in around]
                self.assertEqual(self.told(Map(rim + 1, 0, roads)), one - 2)


class AgainstOtherCounts(unittest.TestCase):
    """Point 8, of `how_many`, held against other ways to count."""

    def test_small_maps_against_all_trees(self):
        none = 0
        for seed in range(250):
            chart = some_map(seed + 8000, 5, 10, 4)
            count = len(all_trees(chart))
            none += count == 0
            self.assertEqual(how_many(chart), count, (chart.begin(), chart.roads()))
        self.assertGreater(none, 20)

    def test_whole_small_maps_against_all_trees(self):
        for seed in range(40):
            chart = whole_map(seed + 8000, 2 + seed % 5, 11, 4)
            self.assertEqual(how_many(chart), len(all_trees(chart)))

    def test_against_how_many_best_tells(self):
        for seed in range(25):
            chart = whole_map(seed + 8500, 6, 11 + seed % 4, 5)
            count = how_many(chart)
            self.assertGreater(count, 0)
            self.assertEqual(len(best(chart, count + 5)), count)
            self.assertEqual(len(best(chart, count)), count)

    def test_great_maps_of_few_trees(self):
        for seed in range(8):
            chart = whole_map(seed + 8600, 20, 27, 5)
            self.assertEqual(how_many(chart), sum(1 for _ in trees_by_lists(chart)))

    def test_onward_maps_by_the_roads_into_each_place(self):
        for seed in range(20):
            chart = onward_map(seed, 20, 60, 9)
            into = [sum(goal == place for _, goal, _ in chart.roads()) for place in range(1, 20)]
            self.assertEqual(how_many(chart), product_of(into))

    def by_fractions(self, chart):
        """The same determinant by fractions, places from the last one back."""
        places = [place for place in range(chart.size() - 1, -1, -1) if place != chart.begin()]
        rows = [[Fraction(0) for _ in places] for _ in places]
        for begin, goal, _ in chart.roads():
            if goal != chart.begin():
                rows[places.index(goal)][places.index(goal)] += 1
                if begin != chart.begin():
                    rows[places.index(begin)][places.index(goal)] -= 1
        whole = Fraction(1)
        for at in range(len(rows)):
            swap = next((k for k in range(at, len(rows)) if rows[k][at] != 0), None)
            if swap is None:
                return 0
            if swap != at:
                rows[at], rows[swap] = rows[swap], rows[at]
                whole = -whole
            whole *= rows[at][at]
            for k in range(at + 1, len(rows)):
                part = rows[k][at] / rows[at][at]
                rows[k] = [x - part * y for x, y in zip(rows[k], rows[at])]
        return whole

    def test_great_maps_by_fractions(self):
        none = 0
        for seed in range(20):
            for chart in [
                whole_map(seed + 8700, 20, 60, 9),
                whole_map(seed + 8800, 13, 60, 9),
                some_map(seed + 8900, 20, 60, 9),
            ]:
                count = how_many(chart)
                none += count == 0
                self.assertEqual(count, self.by_fractions(chart))
        self.assertGreater(none, 3)

    def test_without_a_road_and_with_it_alone(self):
        charts = [whole_map(seed + 9000, 20, 60, 9) for seed in range(6)]
        charts += [some_map(seed + 9100, 6, 20, 9) for seed in range(30)]
        for chart in charts:
            roads = chart.roads()
            count = how_many(chart)
            for road, (_, goal, _) in enumerate(roads):
                less = how_many(Map(chart.size(), chart.begin(), roads[:road] + roads[road + 1:]))
                if goal == chart.begin():
                    self.assertEqual(count, less)
                    continue
                alone = [row for at, row in enumerate(roads) if at == road or row[1] != goal]
                self.assertEqual(count, less + how_many(Map(chart.size(), chart.begin(), alone)))

    def test_places_under_other_numbers(self):
        for seed in range(10):
            chart = whole_map(seed + 9200, 19, 60, 9)
            count = how_many(chart)
            for times in [2, 7, 18]:
                roads = [(begin * times % 19, goal * times % 19, cost) for begin, goal, cost in chart.roads()]
                self.assertEqual(how_many(Map(19, chart.begin() * times % 19, roads)), count)
                self.assertEqual(how_many(Map(19, chart.begin() * times % 19, roads[::-1])), count)


if __name__ == "__main__":
    unittest.main()
