import copy
import unittest

from helper import whole_map
from rootcheap.best import best, margin
from rootcheap.changes import changes, halfway
from rootcheap.cheapest import cheapest, is_shown
from rootcheap.counting import how_many
from rootcheap.desks import Desk
from rootcheap.errors import BadMap, NoRoad, NoTree
from rootcheap.maps import Map, cost_of, is_tree
from rootcheap.needs import always, roots
from rootcheap.notes import read, written

ROADS = [(0, 1, 5), (0, 2, 9), (1, 2, 3), (2, 1, 1), (2, 0, 0)]


class Everywhere(unittest.TestCase):
    """Point 1: what holds of whatever is handed in, kept and given back."""

    def test_lists_handed_in_stay_as_they_were(self):
        roads = list(ROADS)
        chart = Map(3, 0, roads)
        cheapest(chart)
        self.assertEqual(roads, ROADS)
        for numbers in [[2, 0], [0, 2], [3, -1], [2, 2], [1, 0, 2]]:
            kept = list(numbers)
            is_tree(chart, numbers)
            self.assertEqual(numbers, kept)
        numbers = [2, 0, 2]
        cost_of(chart, numbers)
        self.assertEqual(numbers, [2, 0, 2])
        for prices in [[((2, 1), 3), ((1,), 1)], [((1,), 0), ((), 2)], [((2,), 99), ((1,), -1)]]:
            kept = copy.deepcopy(prices)
            is_shown(chart, 3, prices)
            self.assertEqual(prices, kept)

    def test_trees_handed_in_stay_as_they_were(self):
        chart = Map(3, 0, list(ROADS))
        for asked in [changes, halfway]:
            one, other = [2, 0], [3, 1]
            asked(chart, one, other)
            self.assertEqual((one, other), ([2, 0], [3, 1]))
            asked(chart, one, one)
            self.assertEqual(one, [2, 0])
            for bad in [[2, 2], [3, -1], [4, 2, 0]]:
                kept = list(bad)
                with self.assertRaises(NoRoad):
                    asked(chart, one, bad)
                with self.assertRaises(NoRoad):
                    asked(chart, bad, one)
                self.assertEqual((one, bad), ([2, 0], kept))

    def test_the_map_stays_whatever_is_asked(self):
        roads = list(ROADS)
        chart = Map(3, 0, roads)
        for asked in self.all_asked():
            asked(chart)
            self.assertEqual((chart.size(), chart.begin(), chart.roads(), roads), (3, 0, ROADS, ROADS))

    def all_asked(self):
        return [
            lambda chart: cheapest(chart),
            lambda chart: best(chart, 1),
            lambda chart: best(chart, 9),
            lambda chart: always(chart),
            lambda chart: roots(chart),
            lambda chart: [margin(chart, road) for road in range(len(ROADS))],
            lambda chart: changes(chart, [0, 2], [3, 1]),
            lambda chart: halfway(chart, [0, 2], [3, 1]),
            lambda chart: halfway(chart, [0, 2], [0, 2]),
            lambda chart: how_many(chart),
            lambda chart: written(chart),
            lambda chart: read(written(chart)).roads(),
            lambda chart: Desk(chart).now(),
            lambda chart: Desk(chart).standing(),
            lambda chart: Desk(chart).cost(0, 8),
            lambda chart: Desk(chart).gone(2),
            lambda chart: self.gone_and_back(Desk(chart)),
        ]

    def gone_and_back(self, desk):
        return [desk.gone(3), desk.cost(0, 9), desk.back(3, 0), desk.now(), desk.standing()]

    def spoil(self, answer):
        """Change all that can be changed of an answer."""
        if isinstance(answer, (list, tuple)):
            for part in answer:
                self.spoil(part)
        if isinstance(answer, list):
            answer.reverse()
            answer.append(77)
        if isinstance(answer, dict):
            answer[0] = 77
            answer[99] = 77

    def test_whatever_is_given_back_may_be_changed(self):
        chart = Map(3, 0, list(ROADS))
        kept = [copy.deepcopy(asked(chart)) for asked in self.all_asked()]
        for asked in self.all_asked():
            self.spoil(asked(chart))
            self.assertEqual([again(chart) for again in self.all_asked()], kept)
        for asked in self.all_asked():
            answer = asked(chart)
            if isinstance(answer, list):
                answer.clear()
            self.assertEqual([again(chart) for again in self.all_asked()], kept)

    def test_the_lists_of_one_answer_are_not_the_same(self):
        chart = Map(3, 0, list(ROADS))
        for trees in [[tree for tree, _ in best(chart, 9)], halfway(chart, [0, 2], [3, 1]), list(always(chart))]:
            kept = copy.deepcopy(trees)
            trees[0].append(77)
            self.assertEqual(trees[1:], kept[1:])

    def test_a_tree_given_back_is_not_the_one_handed_in(self):
        chart = Map(3, 0, list(ROADS))
        for one, other in [([0, 2], [1, 3]), ([0, 2], [0, 2])]:
            kept = (list(one), list(other))
            for tree in halfway(chart, one, other):
                tree.append(77)
            self.assertEqual((one, other), kept)

    def test_the_places_of_any_refusal_may_be_changed(self):
        chart = Map(4, 1, [(1, 3, 2)])
        for asked in [cheapest, always, lambda of: best(of, 2), lambda of: margin(of, 0), Desk] * 2:
            with self.assertRaises(NoTree) as caught:
                asked(chart)
            self.assertEqual(caught.exception.left, [0, 2])
            caught.exception.left.clear()

    def test_a_refused_list_stays_too(self):
        roads = [(1, 0, 5), (0, 0, 5), (0, 1, -1)]
        kept = list(roads)
        with self.assertRaises(BadMap):
            Map(2, 0, roads)
        self.assertEqual(roads, kept)

    def test_a_map_keeps_a_copy(self):
        roads = list(ROADS)
        chart = Map(3, 0, roads)
        answer = cheapest(chart)
        roads.reverse()
        roads[0] = (0, 2, 0)
        roads.append((0, 1, 0))
        self.assertEqual(chart.roads(), ROADS)
        self.assertEqual(cheapest(chart), answer)
        roads.clear()
        self.assertEqual(chart.roads(), ROADS)
        self.assertEqual(cheapest(chart), answer)

    def test_the_roads_given_back_may_be_changed(self):
        chart = Map(3, 0, list(ROADS))
        given = chart.roads()
        given[0] = (0, 1, 0)
        given.clear()
        self.assertEqual(chart.roads(), ROADS)
        self.assertEqual(cheapest(chart)[:2], ([0, 2], 8))
        self.assertEqual(cost_of(chart, [0, 1]), 14)

    def test_the_tree_and_the_prices_given_back_may_be_changed(self):
        chart = Map(3, 0, list(ROADS))
        kept = copy.deepcopy(cheapest(chart))
        tree, _, prices = cheapest(chart)
        tree.append(77)
        prices.clear()
        self.assertEqual(cheapest(chart), kept)
        tree, _, prices = cheapest(chart)
        tree.clear()
        prices.append(((2,), 1))
        self.assertEqual(cheapest(chart), kept)

    def test_the_places_of_a_refusal_may_be_changed(self):
        chart = Map(4, 1, [(1, 3, 2)])
        for _ in range(3):
            with self.assertRaises(NoTree) as caught:
                cheapest(chart)
            self.assertEqual(caught.exception.left, [0, 2])
            caught.exception.left.clear()

    def test_whatever_is_asked_may_be_asked_again(self):
        for seed in range(5):
            chart = whole_map(seed, 20, 60, 30)
            roads = chart.roads()
            first = copy.deepcopy(cheapest(chart))
            for _ in range(3):
                self.assertEqual(cheapest(chart), first)
                self.assertIs(is_tree(chart, first[0]), True)
                self.assertEqual(cost_of(chart, first[0]), first[1])
                self.assertIs(is_shown(chart, first[1], first[2]), True)
                self.assertEqual((chart.size(), chart.roads()), (20, roads))

    def test_maps_do_not_share_what_they_keep(self):
        one, other = Map(2, 0, [(0, 1, 4)]), Map(2, 1, [(1, 0, 6)])
        self.assertEqual(cheapest(one)[:2], ([0], 4))
        self.assertEqual(cheapest(other)[:2], ([0], 6))
        self.assertEqual(one.roads(), [(0, 1, 4)])
        self.assertEqual((one.begin(), other.begin()), (0, 1))


if __name__ == "__main__":
    unittest.main()
