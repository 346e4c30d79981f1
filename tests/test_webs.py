"""Promise [2], what a web is, and of promise [1] what concerns the web itself."""

import unittest
from itertools import combinations

from lettertree.errors import BadWeb
from lettertree.webs import Web
from tests.samples import CROSSED, full_roads, large_webs, small_webs


def chain(hands):
    return [(hand, hand + 1, 10 * hand + 5) for hand in range(hands - 1)]


class Refusals(unittest.TestCase):
    def refused(self, hands, roads, why, number):
        with self.assertRaises(BadWeb) as caught:
            Web(hands, roads)
        self.assertIs(type(caught.exception), BadWeb)
        self.assertEqual((caught.exception.why, caught.exception.number), (why, number))


class Taken(unittest.TestCase):
    def taken(self, hands, roads):
        web = Web(hands, list(roads))
        self.assertEqual(web.hands(), hands)
        self.assertIs(type(web.hands()), int)
        self.assertEqual(web.roads(), roads)
        self.assertIs(type(web.roads()), list)
        for road in web.roads():
            self.assertIs(type(road), tuple)

    def test_one_to_eight_hands(self):
        for hands in range(1, 9):
            self.taken(hands, chain(hands))

    def test_one_hand_without_a_road(self):
        self.taken(1, [])

    def test_small_webs(self):
        for hands, roads in small_webs(3):
            self.taken(hands, roads)

    def test_large_webs(self):
        for hands, roads in large_webs():
            self.taken(hands, roads)

    def test_twenty_roads(self):
        self.taken(8, full_roads(8, 20, 11))
        self.taken(7, full_roads(7, 20, 30))

    def test_roads_keep_their_order(self):
        self.taken(*CROSSED)

    def test_costs_at_both_edges(self):
        self.taken(2, [(0, 1, 1)])
        self.taken(2, [(0, 1, 99)])
        self.taken(3, [(0, 2, 99), (1, 2, 1)])

    def test_roads_that_share_one_hand(self):
        self.taken(4, [(0, 3, 7), (0, 1, 8), (1, 3, 9), (2, 3, 6)])

    def test_the_interface_stands_in_its_file(self):
        self.assertEqual(Web.__module__, "lettertree.webs")
        for name in ("__init__", "hands", "roads"):
            self.assertIn(name, vars(Web))


class Hands(Refusals):
    def test_no_hand(self):
        self.refused(0, [], "hands", 0)

    def test_nine_hands(self):
        self.refused(9, chain(9), "hands", 0)

    def test_further_beyond(self):
        for hands in (-8, -1, 10, 100):
            self.refused(hands, [], "hands", 0)


class Roads(Refusals):
    def test_twenty_one_roads(self):
        self.refused(8, full_roads(8, 21, 11), "roads", 0)
        self.refused(7, full_roads(7, 21, 11), "roads", 0)

    def test_all_roads_of_eight_hands(self):
        self.refused(8, full_roads(8, 28, 3), "roads", 0)


class Road(Refusals):
    def bad_at_each_place(self, road):
        """The road alone, and behind each number of good ones, is the first bad one."""
        good = [(2, 3, 31), (0, 1, 32), (1, 2, 33)]
        for ahead in range(4):
            self.refused(4, good[:ahead] + [road] + good[ahead:], "road", ahead)

    def test_a_hand_that_there_is_not(self):
        for road in ((0, 4, 7), (3, 4, 7), (-1, 2, 7), (-2, -1, 7), (4, 5, 7), (0, 99, 7)):
            self.bad_at_each_place(road)

    def test_turned_about(self):
        for road in ((2, 0, 7), (3, 0, 7), (3, 1, 7), (1, -1, 7)):
            self.bad_at_each_place(road)

    def test_to_itself(self):
        for hand in range(4):
            self.bad_at_each_place((hand, hand, 7))

    def test_cost_beyond_both_edges(self):
        for cost in (0, 100, -1, -31, 101, 1000):
            self.bad_at_each_place((0, 2, cost))

    def test_both_hands_alike_to_any_earlier_one(self):
        good = [(2, 3, 31), (0, 1, 32), (1, 2, 33)]
        for one, other, _ in good:
            self.refused(4, good + [(one, other, 50), (0, 2, 60)], "road", 3)
        self.refused(2, [(0, 1, 5), (0, 1, 6)], "road", 1)

    def test_an_earlier_one_turned_about(self):
        self.refused(3, [(0, 1, 5), (1, 2, 6), (1, 0, 7)], "road", 2)

    def test_cost_alike_to_any_earlier_one(self):
        good = [(2, 3, 31), (0, 1, 32), (1, 2, 33)]
        for _, _, cost in good:
            self.refused(4, good + [(0, 2, cost), (0, 3, 60)], "road", 3)

    def test_alike_in_all_to_an_earlier_one(self):
        self.refused(3, [(0, 1, 5), (1, 2, 6), (0, 1, 5)], "road", 2)

    def test_any_road_of_one_hand_alone(self):
        self.refused(1, [(0, 1, 5)], "road", 0)
        self.refused(1, [(0, 0, 5)], "road", 0)

    def test_the_last_one_of_twenty(self):
        roads = full_roads(8, 20, 11)
        one, other, _ = roads[19]
        self.refused(8, roads[:19] + [(one, other, roads[0][2])], "road", 19)
        self.refused(8, roads[:19] + [roads[0][:2] + (97,)], "road", 19)

    def test_the_first_bad_one_ahead_of_worse_ones(self):
        worse = (9, -3, 500)
        for road in ((1, 0, 7), (2, 2, 7), (0, 4, 7), (0, 2, 100), (0, 1, 7), (0, 2, 32)):
            self.refused(4, [(0, 1, 32), road, worse, (1, 2, 33), worse], "road", 1)

    def test_of_two_alike_the_later_one(self):
        self.refused(4, [(0, 1, 5), (1, 2, 6), (2, 3, 7), (0, 1, 8), (5, 5, 5)], "road", 3)
        self.refused(4, [(0, 1, 5), (1, 2, 6), (2, 3, 6), (0, 5, 5)], "road", 2)


class Apart(Refusals):
    def test_hands_and_no_roads(self):
        for hands in range(2, 9):
            self.refused(hands, [], "apart", 0)

    def test_each_hand_left_alone(self):
        for hands in range(3, 7):
            for alone in range(hands):
                rest = [hand for hand in range(hands) if hand != alone]
                roads = [pair + (9 + at,) for at, pair in enumerate(combinations(rest, 2))]
                self.refused(hands, roads, "apart", 0)

    def test_two_pieces(self):
        self.refused(4, [(0, 1, 5), (2, 3, 6)], "apart", 0)
        self.refused(4, [(0, 3, 5), (1, 2, 6)], "apart", 0)
        self.refused(8, [(0, 2, 1), (2, 4, 2), (4, 6, 3), (1, 3, 4), (3, 5, 5), (5, 7, 6), (0, 6, 7)], "apart", 0)

    def test_a_chain_without_one_road(self):
        for without in range(7):
            roads = [road for road in chain(8) if road[0] != without]
            self.refused(8, roads, "apart", 0)

    def test_enough_roads_that_do_not_lead_everywhere(self):
        self.refused(4, [(0, 1, 5), (1, 2, 6), (0, 2, 7)], "apart", 0)


class WhichWordComesFirst(Refusals):
    def test_hands_ahead_of_roads(self):
        self.refused(9, full_roads(8, 21, 11), "hands", 0)

    def test_hands_ahead_of_road(self):
        self.refused(0, [(0, 1, 5)], "hands", 0)
        self.refused(9, [(0, 1, 5), (1, 0, 5)], "hands", 0)

    def test_hands_ahead_of_apart(self):
        self.refused(9, [], "hands", 0)

    def test_hands_ahead_of_all(self):
        self.refused(-1, [(4, 1, 0)] * 30, "hands", 0)

    def test_roads_ahead_of_road(self):
        roads = full_roads(8, 20, 11)
        self.refused(8, [(7, 0, 200)] + roads, "roads", 0)
        self.refused(8, roads + [(7, 0, 200)], "roads", 0)
        self.refused(2, [(0, 1, 5)] * 21, "roads", 0)

    def test_roads_ahead_of_apart(self):
        pairs = combinations(range(7), 2)
        self.refused(8, [pair + (1 + at,) for at, pair in enumerate(pairs)], "roads", 0)

    def test_road_ahead_of_apart(self):
        self.refused(4, [(0, 1, 5), (1, 1, 6)], "road", 1)
        self.refused(3, [(0, 3, 5)], "road", 0)


class NothingIsShared(Refusals):
    def test_the_list_handed_in_is_not_changed(self):
        for hands, roads in large_webs():
            handed = list(roads)
            Web(hands, handed)
            self.assertEqual(handed, roads)

    def test_a_refused_list_is_not_changed(self):
        for roads in ([(3, 1, 5), (0, 1, 4)], [(0, 1, 5)], [(0, 1, 7), (0, 1, 2)] * 11):
            handed = list(roads)
            with self.assertRaises(BadWeb):
                Web(4, handed)
            self.assertEqual(handed, roads)

    def test_the_list_handed_in_is_changed_behind_the_call(self):
        hands, roads = CROSSED
        handed = list(roads)
        web = Web(hands, handed)
        handed[0] = (0, 1, 50)
        self.assertEqual(web.roads(), roads)
        handed.append((9, 9, 9))
        self.assertEqual(web.roads(), roads)
        handed.clear()
        self.assertEqual(web.roads(), roads)

    def test_roads_told_are_changed_by_the_asker(self):
        hands, roads = CROSSED
        web = Web(hands, list(roads))
        told = web.roads()
        told[1] = None
        self.assertEqual(web.roads(), roads)
        told.clear()
        self.assertEqual(web.roads(), roads)
        self.assertEqual(web.hands(), hands)

    def test_webs_from_one_list_are_apart(self):
        hands, roads = CROSSED
        handed = list(roads)
        first = Web(hands, handed)
        handed.pop()
        second = Web(hands, handed)
        self.assertEqual(first.roads(), roads)
        self.assertEqual(second.roads(), roads[:-1])

    def test_the_same_is_told_again(self):
        hands, roads = CROSSED
        web = Web(hands, list(roads))
        for _ in range(3):
            self.assertEqual((web.hands(), web.roads()), (hands, roads))

    def test_the_same_is_refused_again(self):
        for _ in range(3):
            self.refused(4, [(0, 1, 5), (1, 2, 100)], "road", 1)


if __name__ == "__main__":
    unittest.main()
