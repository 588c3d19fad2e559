import inspect
import os
import unittest

from rootcheap import best, changes, cheapest, counting, desks, maps, needs, notes

FOLDER = os.path.dirname(maps.__file__)

FUNCTIONS = [
    (maps, "is_tree", ["chart", "roads"]),
    (maps, "cost_of", ["chart", "roads"]),
    (cheapest, "cheapest", ["chart"]),
    (cheapest, "is_shown", ["chart", "whole", "prices"]),
    (best, "best", ["chart", "many"]),
    (best, "margin", ["chart", "road"]),
    (needs, "always", ["chart"]),
    (needs, "roots", ["chart"]),
    (changes, "changes", ["chart", "one", "other"]),
    (changes, "halfway", ["chart", "one", "other"]),
    (counting, "how_many", ["chart"]),
    (notes, "written", ["chart"]),
    (notes, "read", ["text"]),
]

DESK_METHODS = [
    ("cost", ["self", "road", "cost"]),
    ("gone", ["self", "road"]),
    ("back", ["self", "road", "cost"]),
    ("now", ["self"]),
    ("standing", ["self"]),
]


def names(function):
    return list(inspect.signature(function).parameters)


class Interface(unittest.TestCase):
    def test_functions_stand_in_their_files_with_their_arguments(self):
        for module, name, arguments in FUNCTIONS:
            function = getattr(module, name)
            self.assertEqual(function.__module__, module.__name__)
            self.assertEqual(names(function), arguments, name)

    def test_map_has_its_methods_itself(self):
        self.assertEqual(maps.Map.__module__, "rootcheap.maps")
        self.assertEqual(names(maps.Map), ["many", "root", "roads"])
        for method in ["size", "begin", "roads"]:
            self.assertIn(method, vars(maps.Map))
            self.assertEqual(names(vars(maps.Map)[method]), ["self"])

    def test_desk_has_its_methods_itself(self):
        self.assertEqual(desks.Desk.__module__, "rootcheap.desks")
        self.assertEqual(names(desks.Desk), ["chart"])
        for method, arguments in DESK_METHODS:
            self.assertIn(method, vars(desks.Desk))
            self.assertEqual(names(vars(desks.Desk)[method]), arguments)

    def test_arguments_by_name(self):
        chart = maps.Map(many=2, root=1, roads=[(1, 0, 4)])
        self.assertTrue(maps.is_tree(chart=chart, roads=[0]))
        self.assertEqual(maps.cost_of(chart=chart, roads=[0]), 4)
        self.assertEqual(cheapest.cheapest(chart=chart), ([0], 4, [((0,), 4)]))
        self.assertTrue(cheapest.is_shown(chart=chart, whole=4, prices=[((0,), 4)]))
        self.assertEqual(best.best(chart=chart, many=3), [([0], 4)])
        self.assertEqual(best.margin(chart=chart, road=0), ("in", None))
        self.assertEqual(needs.always(chart=chart), ([0], [], []))
        self.assertEqual(needs.roots(chart=chart), [None, 4])
        self.assertEqual(changes.changes(chart=chart, one=[0], other=[0]), [])
        self.assertEqual(changes.halfway(chart=chart, one=[0], other=[0]), [[0]])
        self.assertEqual(counting.how_many(chart=chart), 1)
        self.assertEqual(notes.written(chart=notes.read(text="map 2 1\nroad 1 0 4")), "map 2 1\nroad 1 0 4")

    def test_arguments_of_a_desk_by_name(self):
        desk = desks.Desk(chart=maps.Map(2, 1, [(1, 0, 4), (1, 0, 4)]))
        self.assertEqual(desk.cost(road=0, cost=5), ([0], [1]))
        self.assertEqual(desk.gone(road=1), ([1], [0]))
        self.assertEqual(desk.back(road=1, cost=4), ([0], [1]))
        self.assertEqual(desk.now(), ([1], 4, [((0,), 4)]))
        self.assertEqual(desk.standing(), {0: 5, 1: 4})

    def test_files_keep_the_plain_limits(self):
        for name in sorted(os.listdir(FOLDER)):
            if name == "__pycache__":
                continue
            self.assertRegex(name, r"^[a-z0-9_]+\.py$")
            with open(os.path.join(FOLDER, name), encoding="utf-8") as source:
                text = source.read()
            self.assertRegex(text, r"^[ -~\n]*\Z", name)
            rows = text.split("\n")
            self.assertLess(len(rows), 400, name)
            self.assertLessEqual(max(len(row) for row in rows), 120, name)
            for row in rows:
                if "import " in row:
                    self.assertRegex(row, r"^from (rootcheap\.[a-z_]+|heapq) import \w+(, \w+)*$")


if __name__ == "__main__":
    unittest.main()
