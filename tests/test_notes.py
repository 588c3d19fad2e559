import unittest

from helper import some_map, whole_map
from rootcheap.cheapest import cheapest
from rootcheap.errors import BadMap, BadText, RootError
from rootcheap.maps import Map
from rootcheap.notes import read, written

MOST = 10 ** 9
GOOD = "map 3 0\nroad 0 1 5\nroad 1 2 3"


class Written(unittest.TestCase):
    """Point 13, of `written`."""

    def rows(self, chart):
        text = written(chart)
        self.assertIs(type(text), str)
        return text.split("\n")

    def test_an_ordinary_map(self):
        chart = Map(3, 2, [(0, 1, 5), (2, 0, 12), (1, 2, 0)])
        self.assertEqual(written(chart), "map 3 2\nroad 0 1 5\nroad 2 0 12\nroad 1 2 0")

    def test_no_roads(self):
        self.assertEqual(written(Map(1, 0, [])), "map 1 0")
        self.assertEqual(written(Map(20, 19, [])), "map 20 19")

    def test_roads_between_the_same_places(self):
        chart = Map(2, 1, [(1, 0, 4), (0, 1, 4), (1, 0, 4)])
        self.assertEqual(self.rows(chart), ["map 2 1", "road 1 0 4", "road 0 1 4", "road 1 0 4"])

    def test_the_least_and_the_greatest_costs(self):
        chart = Map(20, 10, [(10, 19, MOST), (19, 10, 0), (9, 8, MOST - 1)])
        self.assertEqual(
            self.rows(chart), ["map 20 10", "road 10 19 1000000000", "road 19 10 0", "road 9 8 999999999"]
        )

    def test_60_roads(self):
        for seed in range(6):
            chart = whole_map(seed + 16000, 20, 60, MOST + 1)
            rows = self.rows(chart)
            self.assertEqual(len(rows), 61)
            self.assertEqual(rows[0], "map 20 " + str(chart.begin()))
            for row, (begin, goal, cost) in zip(rows[1:], chart.roads()):
                self.assertEqual(row, "road " + str(begin) + " " + str(goal) + " " + str(cost))


class ReadAgain(unittest.TestCase):
    """Point 13: what is written is read to the same map."""

    def same(self, chart):
        text = written(chart)
        again = read(text)
        self.assertIs(type(again), Map)
        self.assertEqual(
            (again.size(), again.begin(), again.roads()), (chart.size(), chart.begin(), chart.roads())
        )
        self.assertTrue(all(type(road) is tuple for road in again.roads()))
        self.assertEqual(written(again), text)
        return again

    def test_an_ordinary_map(self):
        again = self.same(Map(3, 0, [(0, 1, 5), (0, 2, 9), (1, 2, 3)]))
        self.assertEqual(cheapest(again)[:2], ([0, 2], 8))

    def test_no_roads(self):
        for many in range(1, 21):
            self.same(Map(many, many // 2, []))

    def test_a_map_without_a_tree(self):
        self.same(Map(3, 1, [(0, 1, 5), (2, 0, 1)]))

    def test_many_maps(self):
        for seed in range(60):
            self.same(some_map(seed + 16100, 20, 60, [1, 10, MOST + 1][seed % 3]))

    def test_the_greatest(self):
        for seed in range(5):
            self.same(whole_map(seed + 16200, 20, 60, MOST + 1))
        self.same(Map(20, 19, [(19, 18, MOST)] * 60))

    def test_a_text_by_hand(self):
        chart = read("map 20 7\nroad 7 19 1000000000\nroad 0 10 0")
        self.assertEqual((chart.size(), chart.begin()), (20, 7))
        self.assertEqual(chart.roads(), [(7, 19, MOST), (0, 10, 0)])


class BadTexts(unittest.TestCase):
    """Point 13: what is refused with BadText, and the first bad row."""

    def bad(self, text, row):
        for _ in range(2):
            with self.assertRaises(BadText) as caught:
                read(text)
            self.assertEqual(caught.exception.row, row, repr(text))
            self.assertIs(type(caught.exception), BadText)
            self.assertIsInstance(caught.exception, RootError)

    def test_a_good_text_is_not_refused(self):
        self.assertEqual(read(GOOD).roads(), [(0, 1, 5), (1, 2, 3)])

    def test_an_empty_text(self):
        self.bad("", 0)
        self.bad("\n", 0)
        self.bad(" ", 0)

    def test_an_empty_row(self):
        self.bad(GOOD + "\n", 3)
        self.bad(GOOD + "\n\n", 3)
        self.bad("map 3 0\n", 1)
        self.bad("map 3 0\n\nroad 0 1 5\nroad 1 2 3", 1)
        self.bad("map 3 0\nroad 0 1 5\n\nroad 1 2 3", 2)
        self.bad("\n" + GOOD, 0)

    def test_a_row_of_blanks(self):
        self.bad("map 3 0\n \nroad 0 1 5", 1)
        self.bad("map 3 0\nroad 0 1 5\n   ", 2)

    def test_a_first_row_that_is_no_map(self):
        for row in ["road 0 1 5", "road 3 0", "Map 3 0", "MAP 3 0", "maps 3 0", "ma 3 0", "3 0", "m 3 0", "0 3 0"]:
            self.bad(row, 0)
            self.bad(row + "\nroad 0 1 5", 0)

    def test_a_later_row_that_is_a_map(self):
        self.bad("map 3 0\nmap 3 0", 1)
        self.bad("map 3 0\nroad 0 1 5\nmap 0 1 5", 2)
        self.bad("map 3 0\nroad 0 1 5\nmap 3 0\nroad 1 2 3", 2)

    def test_a_later_row_that_is_no_road(self):
        for row in ["Road 0 1 5", "ROAD 0 1 5", "roads 0 1 5", "roa 0 1 5", "0 1 5", "# 0 1 5", "way 0 1 5", "~"]:
            self.bad("map 3 0\n" + row, 1)
            self.bad("map 3 0\nroad 1 2 3\n" + row + "\nroad 1 2 3", 2)

    def test_too_few_and_too_many_words(self):
        for row in ["map", "map 3", "map 3 0 0", "map 3 0 1 5", "map 3 0 road 0 1 5"]:
            self.bad(row, 0)
            self.bad(row + "\nroad 0 1 5", 0)
        for row in ["road", "road 0", "road 0 1", "road 0 1 5 5", "road 0 1 5 road 1 2 3"]:
            self.bad("map 3 0\n" + row, 1)

    def test_blanks(self):
        for row in [" map 3 0", "map 3 0 ", "map  3 0", "map 3  0", "map 3 ", "map  3", "map30", "map 30"]:
            self.bad(row, 0)
            self.bad(row + "\nroad 0 1 5", 0)
        for row in [
            " road 0 1 5", "road 0 1 5 ", "road  0 1 5", "road 0  1 5", "road 0 1  5",
            "road 0 1 ", "road  0 1", "road 0  5", "road0 1 5", "road 01 5",
        ]:
            self.bad("map 3 0\n" + row, 1)
            self.bad(GOOD + "\n" + row, 3)

    def test_tabs_and_carriage_returns(self):
        for row in ["map\t3 0", "map 3\t0", "map 3 0\t", "\tmap 3 0", "map 3 0\r", "map 3 \r0", "\rmap 3 0"]:
            self.bad(row, 0)
            self.bad(row + "\nroad 0 1 5", 0)
        for row in ["road\t0 1 5", "road 0 1\t5", "road 0 1 5\t", "\troad 0 1 5", "road 0 1 5\r", "road 0 \t1 5"]:
            self.bad("map 3 0\n" + row, 1)
        self.bad(GOOD.replace("\n", "\r\n"), 0)
        self.bad(GOOD.replace("\n", "\r"), 0)
        self.bad("map 3 0\nroad 0 1 5\rroad 1 2 3", 1)
        self.bad("map 3 0\nroad 0 1 5\n\r", 2)

    def test_words_that_are_no_numbers(self):
        for word in [
            "", "+1", "-1", "-0", "+0", "01", "00", "000", "0000000001", "1.0", "1e1", "1_0", "1,0", "0x1", "one", "a",
            "1a", "a1", "#", "'1'", "(1)", "~", "/", ":", "12345678901", "10000000000", "00000000000", "99999999999",
            "1" * 12, "1" * 100, "1" * 5000, "\t1", "1\t", "1\r",
        ]:
            for row in ["map " + word + " 0", "map 3 " + word]:
                self.bad(row, 0)
                self.bad(row + "\nroad 0 1 5", 0)
            for row in ["road " + word + " 1 5", "road 0 " + word + " 5", "road 0 1 " + word]:
                self.bad("map 3 0\n" + row, 1)
                self.bad("map 3 0\nroad 0 2 7\n" + row + "\nroad 1 2 3", 2)

    def test_the_first_of_two_bad_rows(self):
        self.bad("map 3\nroad 0 1", 0)
        self.bad("map 3 0\nroad 0 1\nroad 0 1 5 5", 1)
        self.bad("map 3 0\nroad 0 1 5\nroad 01 1 5\n", 2)
        self.bad("map 3 0\nroad 0 1 5\nroad 0 1 5\n\nroad\n", 3)

    def test_a_bad_row_behind_what_makes_no_map(self):
        self.bad("map 0 0\nroad 0 1", 1)
        self.bad("map 21 0\nroad 0 1 5\n", 2)
        self.bad("map 3 3\n", 1)
        self.bad("map 3 0\nroad 0 0 5\nroad 0 1 9999999999\nroads 0 1 5", 3)
        self.bad("map 3 0\n" + "road 0 1 5\n" * 61, 62)
        self.bad("map 3 0\n" + "road 0 1 5\n" * 70 + "road 0 1", 71)

    def test_bad_rows_at_any_place(self):
        rows = written(whole_map(16300, 20, 60, 99)).split("\n")
        for at in range(61):
            self.bad("\n".join(rows[:at] + [rows[at] + " "] + rows[at + 1:]), at)
            self.bad("\n".join(rows[:at] + [""] + rows[at:]), at)


class NoMaps(unittest.TestCase):
    """Point 13: good rows that make no map are refused with BadMap."""

    def bad(self, text, at, why):
        with self.assertRaises(BadMap) as caught:
            read(text)
        self.assertEqual((caught.exception.at, caught.exception.why), (at, why), repr(text))
        self.assertIs(type(caught.exception), BadMap)

    def test_places(self):
        self.bad("map 0 0", 0, "many")
        self.bad("map 21 0\nroad 0 0 5", 0, "many")
        self.bad("map 9999999999 0", 0, "many")
        self.bad("map 1000000000 0", 0, "many")

    def test_root(self):
        self.bad("map 1 1", 0, "root")
        self.bad("map 20 20\nroad 0 1 5", 0, "root")
        self.bad("map 3 9999999999", 0, "root")

    def test_too_many_roads(self):
        self.bad("map 3 0" + "\nroad 0 1 5" * 61, 0, "roads")
        self.bad("map 3 0" + "\nroad 0 0 5" * 61, 0, "roads")
        self.assertEqual(read("map 3 0" + "\nroad 0 1 5" * 60).roads(), [(0, 1, 5)] * 60)

    def test_places_of_roads(self):
        self.bad("map 3 0\nroad 0 0 5", 0, "place")
        self.bad("map 3 0\nroad 0 1 5\nroad 0 3 5", 1, "place")
        self.bad("map 3 0\nroad 0 1 5\nroad 0 1 5\nroad 9999999999 1 5", 2, "place")
        self.bad("map 1 0\nroad 0 1 5", 0, "place")

    def test_costs(self):
        self.bad("map 3 0\nroad 0 1 1000000001", 0, "cost")
        self.bad("map 3 0\nroad 0 1 1000000000\nroad 0 1 9999999999", 1, "cost")

    def test_the_first_of_two(self):
        self.bad("map 3 0\nroad 0 1 1000000001\nroad 0 0 5", 0, "cost")
        self.bad("map 3 0\nroad 0 1 5\nroad 0 0 1000000001", 1, "place")
        self.bad("map 0 0\nroad 0 0 1000000001", 0, "many")


if __name__ == "__main__":
    unittest.main()
