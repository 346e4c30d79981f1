"""Promise [12], webs as texts, and of promise [1] what concerns them."""

import unittest

from lettertree import notes
from lettertree.errors import BadText, BadWeb, WebError
from lettertree.notes import read, written
from lettertree.webs import Web
from tests.samples import CROSSED, full_roads, large_webs, small_webs

TEXT = "hands 4\nroad 0 1 4\nroad 1 2 7\nroad 0 2 99\nroad 2 3 10"


class Written(unittest.TestCase):
    def test_row_by_row(self):
        web = Web(4, [(0, 1, 4), (1, 2, 7), (0, 2, 99), (2, 3, 10)])
        self.assertEqual(written(web), TEXT)

    def test_roads_in_the_order_of_their_numbers(self):
        rows = ["hands 5", "road 2 4 6", "road 0 4 8", "road 1 2 3", "road 0 1 20", "road 3 4 1", "road 0 2 15",
                "road 1 3 7"]
        self.assertEqual(written(Web(*CROSSED)), "\n".join(rows))

    def test_a_hand_without_roads(self):
        self.assertEqual(written(Web(1, [])), "hands 1")

    def test_it_tells_a_text(self):
        self.assertIs(type(written(Web(*CROSSED))), str)

    def test_the_interface_stands_in_its_file(self):
        self.assertEqual((written.__module__, read.__module__), (notes.__name__, notes.__name__))


class Read(unittest.TestCase):
    def test_row_by_row(self):
        web = read(TEXT)
        self.assertIs(type(web), Web)
        self.assertEqual((web.hands(), web.roads()), (4, [(0, 1, 4), (1, 2, 7), (0, 2, 99), (2, 3, 10)]))
        self.assertEqual({type(road) for road in web.roads()}, {tuple})
        self.assertEqual({type(number) for road in web.roads() for number in road}, {int})

    def test_a_hand_without_roads(self):
        web = read("hands 1")
        self.assertEqual((web.hands(), web.roads()), (1, []))

    def there_and_back(self, hands, roads):
        web = read(written(Web(hands, roads)))
        self.assertEqual((web.hands(), web.roads()), (hands, roads))
        self.assertEqual(written(web), written(Web(hands, roads)))

    def test_what_is_written_is_read_to_the_same_web(self):
        for hands, roads in small_webs(3):
            self.there_and_back(hands, roads)
        for hands, roads in large_webs():
            self.there_and_back(hands, roads)

    def test_costs_at_both_edges(self):
        self.there_and_back(3, [(0, 1, 99), (1, 2, 1)])
        self.there_and_back(3, [(0, 2, 9), (1, 2, 10)])

    def test_what_is_read_is_written_the_same(self):
        self.assertEqual(written(read(TEXT)), TEXT)


class BadRows(unittest.TestCase):
    ROWS = TEXT.split("\n")

    def refused(self, text, row):
        with self.assertRaises(BadText) as caught:
            read(text)
        self.assertIs(type(caught.exception), BadText)
        self.assertEqual(caught.exception.row, row, text)

    def bad_in_each_road_s_place(self, bad):
        for row in range(1, 5):
            self.refused("\n".join(self.ROWS[:row] + [bad] + self.ROWS[row + 1:]), row)
            self.refused("\n".join(self.ROWS[:row] + [bad]), row)

    def test_an_empty_text(self):
        self.refused("", 0)

    def test_an_empty_row(self):
        self.refused("\n" + TEXT, 0)
        self.refused("\n", 0)
        self.refused(TEXT + "\n", 5)
        self.refused("hands 1\n", 1)
        self.refused("hands 1\n\n", 1)
        self.bad_in_each_road_s_place("")

    def test_the_first_row(self):
        for row in ("hands", "hands ", " hands 4", "hands 4 ", "hands  4", "hands 4 4", "hand 4", "Hands 4", "HANDS 4",
                    "hands04", "hands4", "4 hands", "4", "hands four", "hands +4", "hands -4", "hands 04", "hands 00",
                    "hands 004", "hands 1000", "hands 0004", "hands 4.", "hands 4,", "hands 0x4", "hands 1_0",
                    "hands 4a", "road 0 1 4", "road 4", "hands: 4", "\"hands\" 4", " ", "  ", "hands - 4"):
            self.refused(row, 0)
            self.refused("\n".join([row] + self.ROWS[1:]), 0)

    def test_the_rows_of_roads(self):
        for row in ("road", "road ", "road 0 1", "road 0 1 ", "road 0 1 4 ", " road 0 1 4", "road  0 1 4",
                    "road 0  1 4", "road 0 1  4", "road 0 1 4 5", "roads 0 1 4", "Road 0 1 4", "ROAD 0 1 4", "0 1 4",
                    "road a 1 4", "road 0 b 4", "road 0 1 c", "road -1 1 4", "road 0 -1 4", "road 0 1 -4",
                    "road 0 1 +4", "road 00 1 4", "road 0 01 4", "road 0 1 04", "road 0 1 00", "road 0 1 004",
                    "road 1000 1 4", "road 0 1000 4", "road 0 1 1000", "road 0 1 0001", "road 0,1,4", "road 0 1 4.0",
                    "road 0 1 1_0", "hands 4", "hands 0 1 4", "road 0 1 4;", " ", "road0 1 4"):
            self.bad_in_each_road_s_place(row)

    def test_a_row_too_many(self):
        self.refused(TEXT + "\nhands 4", 5)
        self.refused("hands 4\n" + TEXT, 1)
        self.refused(TEXT + "\n" + TEXT, 5)
        self.refused(TEXT + "\nend", 5)

    def test_the_first_bad_one_of_several(self):
        self.refused("hands 4\nroad 0 1 4\nroad 1 2\nroad\nhands", 2)
        self.refused("hands x\nroad 0 1\n", 0)
        self.refused("hands 4\nroad 0 1 04\nroad 1 2 07", 1)

    def test_a_bad_row_ahead_of_a_bad_web(self):
        self.refused("hands 9\nroad 3 1 500\nroad 0 1 04", 2)
        self.refused("hands 0\n", 1)
        self.refused("\n".join(["hands 8"] + ["road 0 1 4"] * 30 + ["road 0 1"]), 31)


class BadWebs(unittest.TestCase):
    def refused(self, text, why, number):
        with self.assertRaises(BadWeb) as caught:
            read(text)
        self.assertIs(type(caught.exception), BadWeb)
        self.assertEqual((caught.exception.why, caught.exception.number), (why, number))

    def test_hands(self):
        for number in (0, 9, 10, 99, 100, 999):
            self.refused(f"hands {number}", "hands", 0)
            self.refused(f"hands {number}\nroad 0 1 4", "hands", 0)

    def test_roads(self):
        rows = [f"road {one} {other} {cost}" for one, other, cost in full_roads(8, 21, 11)]
        self.refused("\n".join(["hands 8"] + rows), "roads", 0)

    def test_road(self):
        for row in ("road 1 0 9", "road 2 2 9", "road 0 4 9", "road 0 999 9", "road 0 3 0", "road 0 3 100",
                    "road 0 3 999", "road 0 1 9", "road 0 3 4"):
            self.refused(f"hands 4\nroad 0 1 4\n{row}\nroad 2 3 10", "road", 1)

    def test_apart(self):
        self.refused("hands 2", "apart", 0)
        self.refused("hands 4\nroad 0 1 4\nroad 2 3 10", "apart", 0)


class NothingIsShared(unittest.TestCase):
    def test_the_same_is_told_again(self):
        web, other = Web(*CROSSED), Web(1, [])
        text = written(web)
        for _ in range(3):
            self.assertEqual((written(other), written(web)), ("hands 1", text))
            told = read(text)
            self.assertEqual((told.hands(), told.roads()), CROSSED)
            told.roads().clear()

    def test_the_web_is_not_changed(self):
        web = Web(*CROSSED)
        written(web)
        self.assertEqual((web.hands(), web.roads()), CROSSED)

    def test_webs_read_from_one_text_are_apart(self):
        first, second = read(TEXT), read(TEXT)
        first.roads().append((1, 3, 50))
        self.assertEqual(first.roads(), second.roads())

    def test_the_same_is_refused_again(self):
        for _ in range(2):
            for text in ("", "hands 4\nroad", "hands 9"):
                with self.assertRaises(WebError):
                    read(text)


if __name__ == "__main__":
    unittest.main()
