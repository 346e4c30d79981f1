"""Promise [3], the least tree and why it is the least one, and of promise [1] what concerns these."""

import unittest

from lettertree import webs
from lettertree.errors import NoRoad
from lettertree.webs import Web, instead, side, tree
from tests.samples import CROSSED, full_roads, large_webs, leads_everywhere, least_by_trying, reached, small_webs

# By hand: a ring of six whose dearest road is (1, 4), and a seventh hand beyond hand 5.
RING = (7, [(4, 5, 12), (1, 4, 40), (2, 5, 9), (0, 3, 33), (2, 3, 5), (0, 1, 21), (5, 6, 90)])


class Tree(unittest.TestCase):
    def test_small_webs_against_all_sets_of_roads(self):
        for hands, roads in small_webs(4):
            least = least_by_trying(hands, roads, range(len(roads) + 1))
            self.assertEqual(tree(Web(hands, roads)), least, (hands, roads))

    def test_larger_webs_against_all_sets_of_roads(self):
        for hands, many in ((5, 10), (6, 9), (7, 10), (8, 10)):
            for step in (1, 13, 40, 77, 96):
                roads = full_roads(hands, many, step)
                least = least_by_trying(hands, roads, range(many + 1))
                self.assertEqual(tree(Web(hands, roads)), least, (hands, roads))

    def test_the_largest_web_against_all_sets_of_seven_roads(self):
        roads = full_roads(8, 20, 41)
        self.assertEqual(tree(Web(8, roads)), least_by_trying(8, roads, [7]))

    def test_one_hand_alone(self):
        self.assertEqual(tree(Web(1, [])), [])

    def test_two_hands(self):
        self.assertEqual(tree(Web(2, [(0, 1, 99)])), [0])

    def test_a_web_that_is_a_tree(self):
        roads = [(3, 4, 2), (0, 4, 80), (1, 4, 1), (2, 4, 99)]
        self.assertEqual(tree(Web(5, roads)), [0, 1, 2, 3])

    def test_by_hand(self):
        self.assertEqual(tree(Web(*RING)), [0, 2, 3, 4, 5, 6])
        self.assertEqual(tree(Web(*CROSSED)), [0, 1, 2, 4])

    def test_numbers_rise_though_costs_do_not(self):
        self.assertEqual(tree(Web(4, [(2, 3, 30), (0, 1, 20), (1, 2, 10), (0, 3, 40)])), [0, 1, 2])

    def test_it_tells_a_list(self):
        self.assertIs(type(tree(Web(*RING))), list)


class Instead(unittest.TestCase):
    def walk(self, roads, number, told):
        """The told roads lead from the road's one hand to its other, and over no hand twice."""
        here, end, _ = roads[number]
        seen = [here]
        for at in told:
            one, other, _ = roads[at]
            self.assertIn(here, (one, other))
            here = other if here == one else one
            self.assertNotIn(here, seen)
            seen.append(here)
        self.assertEqual(here, end)

    def check(self, hands, roads):
        web = Web(hands, roads)
        chosen = tree(web)
        for number, (_, _, cost) in enumerate(roads):
            told = instead(web, number)
            if number in chosen:
                self.assertIsNone(told)
                continue
            self.assertIs(type(told), list)
            self.walk(roads, number, told)
            for at in told:
                self.assertIn(at, chosen)
                self.assertLess(roads[at][2], cost)

    def test_each_road_of_small_webs(self):
        for hands, roads in small_webs(4):
            self.check(hands, roads)

    def test_each_road_of_large_webs(self):
        for hands, roads in large_webs():
            self.check(hands, roads)

    def test_in_turn_from_the_one_hand(self):
        self.assertEqual(instead(Web(3, [(1, 2, 5), (0, 1, 3), (0, 2, 9)]), 2), [1, 0])
        self.assertEqual(instead(Web(3, [(0, 1, 3), (1, 2, 5), (0, 2, 9)]), 2), [0, 1])
        self.assertEqual(instead(Web(*RING), 1), [5, 3, 4, 2, 0])

    def test_by_hand(self):
        web = Web(*CROSSED)
        self.assertEqual([instead(web, number) for number in range(7)],
                         [None, None, None, [1, 0, 2], None, [1, 0], [2, 0, 4]])


class Side(unittest.TestCase):
    def check(self, hands, roads):
        web = Web(hands, roads)
        chosen = tree(web)
        for number, (one, other, cost) in enumerate(roads):
            told = side(web, number)
            if number not in chosen:
                self.assertIsNone(told)
                continue
            self.assertIs(type(told), list)
            rest = [roads[at] for at in chosen if at != number]
            self.assertEqual(told, sorted(reached(one, rest)))
            self.assertNotIn(other, told)
            for at, (near, far, price) in enumerate(roads):
                if at != number and (near in told) != (far in told):
                    self.assertGreater(price, cost)

    def test_each_road_of_small_webs(self):
        for hands, roads in small_webs(4):
            self.check(hands, roads)

    def test_each_road_of_large_webs(self):
        for hands, roads in large_webs():
            self.check(hands, roads)

    def test_the_one_hand_is_told_too(self):
        web = Web(2, [(0, 1, 7)])
        self.assertEqual(side(web, 0), [0])

    def test_the_one_hand_s_side_and_not_the_other_s(self):
        web = Web(4, [(2, 3, 1), (0, 1, 2), (1, 2, 3)])
        self.assertEqual([side(web, number) for number in range(3)], [[0, 1, 2], [0], [0, 1]])

    def test_by_hand(self):
        self.assertEqual([side(Web(*RING), number) for number in range(7)],
                         [[4], None, [0, 1, 2, 3], [0, 1], [2, 4, 5, 6], [0, 2, 3, 4, 5, 6], [0, 1, 2, 3, 4, 5]])
        self.assertEqual([side(Web(*CROSSED), number) for number in range(7)],
                         [[1, 2], [0], [1], None, [3], None, None])

    def test_rising_from_a_hand_in_the_middle(self):
        roads = [(3, 5, 1), (0, 3, 2), (3, 4, 3), (2, 3, 4), (1, 4, 5)]
        self.assertEqual(side(Web(6, roads), 0), [0, 1, 2, 3, 4])


class EitherOne(unittest.TestCase):
    def test_each_road_is_of_one_kind(self):
        for hands, roads in large_webs():
            web = Web(hands, roads)
            chosen = tree(web)
            self.assertTrue(leads_everywhere(hands, [roads[number] for number in chosen]))
            self.assertEqual(len(chosen), hands - 1)
            for number in range(len(roads)):
                self.assertEqual(instead(web, number) is None, number in chosen)
                self.assertEqual(side(web, number) is None, number not in chosen)

    def test_the_interface_stands_in_its_file(self):
        for name in ("tree", "instead", "side"):
            self.assertEqual(getattr(webs, name).__module__, "lettertree.webs")


class NumbersOfNoRoad(unittest.TestCase):
    def refused(self, web, number):
        for asked in (instead, side):
            with self.assertRaises(NoRoad) as caught:
                asked(web, number)
            self.assertIs(type(caught.exception), NoRoad)

    def test_below_0(self):
        for number in (-1, -2, -7, -8, -100):
            self.refused(Web(*RING), number)

    def test_beyond_the_last(self):
        for number in (7, 8, 20, 1000):
            self.refused(Web(*RING), number)

    def test_a_web_without_roads(self):
        for number in (-1, 0, 1):
            self.refused(Web(1, []), number)

    def test_the_first_and_the_last_are_answered(self):
        web = Web(3, [(0, 2, 9), (1, 2, 5), (0, 1, 3)])
        self.assertEqual((instead(web, 0), side(web, 0)), ([2, 1], None))
        self.assertEqual((instead(web, 2), side(web, 2)), (None, [0]))


class NothingIsShared(unittest.TestCase):
    def answers(self, web):
        numbers = range(len(web.roads()))
        return [tree(web), [instead(web, number) for number in numbers], [side(web, number) for number in numbers]]

    def test_the_same_is_answered_again(self):
        for hands, roads in large_webs():
            web = Web(hands, roads)
            self.assertEqual(self.answers(web), self.answers(web))

    def test_asking_changes_no_web(self):
        hands, roads = RING
        web = Web(hands, list(roads))
        self.answers(web)
        for number in (-1, 7):
            with self.assertRaises(NoRoad):
                side(web, number)
        self.assertEqual((web.hands(), web.roads()), (hands, roads))

    def test_lists_told_are_changed_by_the_asker(self):
        web = Web(*RING)
        before = self.answers(web)
        for told in (tree(web), instead(web, 1), side(web, 2)):
            told.append(77)
            told.reverse()
            self.assertEqual(self.answers(web), before)
            told.clear()
            self.assertEqual(self.answers(web), before)
        web.roads().clear()
        self.assertEqual(self.answers(web), before)

    def test_the_list_handed_in_is_changed_behind_the_call(self):
        hands, roads = RING
        handed = list(roads)
        web = Web(hands, handed)
        before = self.answers(web)
        handed.reverse()
        self.assertEqual(self.answers(web), before)
        handed[0] = (0, 6, 1)
        self.assertEqual(self.answers(web), before)
        handed.clear()
        self.assertEqual(self.answers(web), before)


if __name__ == "__main__":
    unittest.main()
