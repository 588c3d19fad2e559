import unittest

from rootcheap import errors
from rootcheap.errors import BadMap, BadText, NoRoad, NoTree, RootError

LEAVES = [BadMap, NoTree, NoRoad, BadText]


class Errors(unittest.TestCase):
    def test_any_refusal_is_a_root_error_and_a_value_error(self):
        self.assertTrue(issubclass(RootError, ValueError))
        for leaf in LEAVES:
            self.assertTrue(issubclass(leaf, RootError), leaf)
            self.assertIsNot(leaf, RootError)

    def test_none_is_under_another_one(self):
        for leaf in LEAVES:
            for other in LEAVES:
                if leaf is not other:
                    self.assertFalse(issubclass(leaf, other), (leaf, other))

    def test_each_is_defined_here(self):
        for leaf in [RootError] + LEAVES:
            self.assertEqual(leaf.__module__, "rootcheap.errors")
            self.assertIs(getattr(errors, leaf.__name__), leaf)

    def test_fields(self):
        bad = BadMap(3, "cost")
        self.assertEqual((bad.at, bad.why), (3, "cost"))
        self.assertEqual(NoTree([1, 4]).left, [1, 4])
        self.assertEqual(BadText(7).row, 7)
        self.assertIsInstance(NoRoad("5"), RootError)

    def test_left_is_a_copy(self):
        places = [1, 4]
        refusal = NoTree(places)
        places.append(9)
        self.assertEqual(refusal.left, [1, 4])
        self.assertIs(type(refusal.left), list)


if __name__ == "__main__":
    unittest.main()
