"""Promise [11], whole runs, and of promise [1] what concerns them."""

import unittest

from lettertree.errors import NoHand
from lettertree.nets import Net, run
from lettertree.webs import Web, tree
from tests.samples import CROSSED, large_webs

TRIANGLE = (3, [(0, 1, 4), (0, 2, 3), (1, 2, 5)])
CHAIN = (4, [(0, 1, 1), (1, 2, 2), (2, 3, 3)])
# In these two how many letters are sent depends on the order in which they come: a hand whose joins
# comes to hand 0 of the star early enough isn't asked.
STAR = (8, [(0, hand, hand) for hand in range(1, 8)])
STAGGERED = (6, [(1, 4, 97), (1, 3, 40), (2, 3, 89), (3, 5, 58), (1, 5, 29), (0, 3, 71), (0, 1, 15)])
NUMBERS = (-100, -9, -4, -3, -1, 3, 4, 8, 100)


def pick_lists():
    """Lists of numbers from 0 on: short and long, small and large."""
    yield []
    yield [0]
    yield [1]
    yield [10 ** 30 + 7]
    for step in range(1, 40):
        yield [step * turn * turn % 101 for turn in range(5 * step)]
    for step in (2, 3, 5, 7):
        yield [step + turn // 3 for turn in range(60)]
        yield [10 ** 12 + step * turn for turn in range(500)]


def by_hand(web, mute, woken, picks):
    """What run has to tell, worked out with a net that is led by the hand."""
    net = Net(web, mute)
    for hand in woken:
        net.wake(hand)
    left = list(picks)
    while net.under_way():
        ways = sorted(net.under_way())
        number = left.pop(0) if left else 0
        net.carry(*ways[number - number // len(ways) * len(ways)])
    told = [net.knows(hand) for hand in range(web.hands())]
    agreed = [number for number, (one, other, _) in enumerate(web.roads())
              if other in told[one][3] and one in told[other][3]]
    return all(knows[5] for knows in told), agreed, net.sent(), net.silent()


class Told(unittest.TestCase):
    def told(self, web, mute, woken, picks, over, roads, sent, silent):
        told = run(Web(*web), mute, woken, picks)
        self.assertEqual(told, (over, roads, sent, silent))
        self.assertIs(type(told), tuple)
        self.assertEqual([type(part) for part in told[:3]], [bool, list, int])

    def test_to_the_end(self):
        self.told(TRIANGLE, None, [0], [], True, [0, 1], 14, None)
        self.told(TRIANGLE, None, [0, 1, 2], [3, 1, 2], True, [0, 1], 14, None)
        self.told((2, [(0, 1, 9)]), None, [1], [], True, [0], 6, None)
        self.told(CROSSED, None, [0], [], True, [0, 1, 2, 4], 46, None)

    def test_one_hand(self):
        self.told((1, []), None, [0], [], True, [], 0, None)
        self.told((1, []), None, [0, 0], [4, 2], True, [], 0, None)
        self.told((1, []), None, [], [], False, [], 0, None)
        self.told((1, []), 0, [], [], False, [], 0, None)

    def test_no_hand_wakes(self):
        self.told(TRIANGLE, None, [], [], False, [], 0, None)
        self.told(TRIANGLE, None, [], [1, 2, 3], False, [], 0, None)
        self.told(TRIANGLE, 2, [], [1], False, [], 0, None)

    def test_one_hand_wakes_twice(self):
        self.told(TRIANGLE, None, [0, 0], [], True, [0, 1], 14, None)
        self.told(TRIANGLE, None, [2, 0, 2, 2, 0], [1, 1, 5], True, [0, 1], 14, None)
        self.told(TRIANGLE, 0, [1, 1], [], False, [], 1, 0)

    def test_with_a_silent_hand(self):
        # By hand: the first letter is lost at once; or a piece of two or three is made, and asks the silent hand.
        self.told(TRIANGLE, 2, [0], [], False, [], 1, 2)
        self.told(TRIANGLE, 1, [0], [], False, [1], 6, 1)
        self.told((2, [(0, 1, 9)]), 1, [0], [], False, [], 1, 1)
        self.told(CHAIN, 3, [0], [], False, [0, 1], 10, 3)

    def test_the_silent_hand_in_the_list_does_not_wake(self):
        self.told((1, []), 0, [0], [], False, [], 0, None)
        self.told((2, [(0, 1, 1)]), 0, [0], [], False, [], 0, None)
        self.told((2, [(0, 1, 1)]), 0, [0, 1], [], False, [], 1, 0)
        self.told((2, [(0, 1, 1)]), 0, [1, 0, 0], [3], False, [], 1, 0)
        self.told(TRIANGLE, 1, [1, 0, 1], [], False, [1], 6, 1)
        self.told(CHAIN, 3, [3, 3], [1, 2], False, [], 0, None)

    def test_the_silent_hand_in_the_list_is_of_no_weight(self):
        for hands, roads in large_webs():
            web = Web(hands, roads)
            for mute in range(hands):
                woken = [hand for hand in range(0, hands, 2) if hand != mute]
                without = run(web, mute, woken, [2, 7, 1, 8])
                self.assertEqual(run(web, mute, [mute] + woken, [2, 7, 1, 8]), without)
                self.assertEqual(run(web, mute, woken + [mute, mute], [2, 7, 1, 8]), without)

    def test_a_road_that_one_hand_alone_marks_is_not_told(self):
        self.told(CHAIN, 0, [1], [], False, [], 1, 0)
        self.told((3, [(0, 1, 1), (0, 2, 2)]), 1, [2], [], False, [], 2, 1)

    def test_the_tree_of_large_webs(self):
        for step, (hands, roads) in enumerate(large_webs()):
            web = Web(hands, roads)
            over, marked, _, silent = run(web, None, [step % hands], [step, 3, 1, 4, 1, 5, 9, 2, 6])
            self.assertEqual((over, marked, silent), (True, tree(web), None))

    def test_numbers_of_roads_rise(self):
        hands, roads = CROSSED
        for turned in range(len(roads)):
            web = Web(hands, roads[turned:] + roads[:turned])
            self.assertEqual(run(web, None, [4, 2], [turned] * 30)[1], sorted(tree(web)))


class Picks(unittest.TestCase):
    def counts(self, web, mute, woken):
        """How many letters are sent, by each list of picks."""
        found = set()
        for picks in pick_lists():
            told = run(Web(*web), mute, woken, picks)
            self.assertEqual(told, by_hand(Web(*web), mute, woken, picks))
            found.add(told[2])
        return found

    def test_each_list_of_picks(self):
        # The order that the picks make is of weight, or this would test little.
        self.assertLess(3, len(self.counts(STAR, None, [0, 7, 6, 5, 4, 3, 2])))
        self.assertLess(2, len(self.counts(STAR, 7, [0, 6, 5, 4, 3, 2])))
        self.assertLess(1, len(self.counts(STAGGERED, None, [5, 4])))
        self.assertLess(1, len(self.counts(STAGGERED, 2, [4, 5])))
        self.counts(STAGGERED, 0, [1])

    def test_0_when_there_are_no_more(self):
        for picks in pick_lists():
            few = picks[:9]
            self.assertEqual(run(Web(*STAR), None, [0, 4, 6], few), run(Web(*STAR), None, [0, 4, 6], few + [0] * 90))

    def test_more_than_the_letters(self):
        web = Web(*TRIANGLE)
        for number in range(7):
            self.assertEqual(run(web, None, [1], [number] * 14 + [5] * 90), (True, [0, 1], 14, None))

    def test_less_as_many_times_the_count_as_can_be(self):
        # Hand 0 asks hand 3, and is told no, unless hand 3's joins, on the second one of two ways, comes first.
        web = Web(4, [(0, 1, 1), (0, 2, 2), (0, 3, 3)])
        for even in (0, 2, 4, 88, 10 ** 20):
            self.assertEqual(run(web, None, [0, 3], [even])[2], 18)
            self.assertEqual(run(web, None, [0, 3], [even + 1])[2], 16)


class Refused(unittest.TestCase):
    def refused(self, mute, woken):
        woken_before, picks = list(woken), [2, 1]
        with self.assertRaises(NoHand) as caught:
            run(Web(*TRIANGLE), mute, woken, picks)
        self.assertIs(type(caught.exception), NoHand)
        self.assertEqual((woken, picks), (woken_before, [2, 1]))

    def test_a_silent_hand_that_there_is_not(self):
        for number in NUMBERS:
            self.refused(number, [])
            self.refused(number, [0])
            self.refused(number, [number])

    def test_a_woken_hand_that_there_is_not(self):
        for number in NUMBERS:
            for mute in (None, 1):
                self.refused(mute, [number])
                self.refused(mute, [0, 2, number])
                self.refused(mute, [number, 0])

    def test_a_woken_hand_that_there_is_not_behind_the_silent_one(self):
        for number in NUMBERS:
            for mute in range(3):
                self.refused(mute, [mute, number])
                self.refused(mute, [number, mute])


class NothingIsShared(unittest.TestCase):
    def test_what_is_handed_in_stays(self):
        for mute in (None, 3):
            hands, roads = STAGGERED
            web, woken, picks = Web(hands, list(roads)), [4, 0, 4], [9, 0, 7, 10 ** 9]
            run(web, mute, woken, picks)
            self.assertEqual((woken, picks), ([4, 0, 4], [9, 0, 7, 10 ** 9]))
            self.assertEqual((web.hands(), web.roads()), (hands, roads))

    def test_the_same_is_told_again(self):
        web, other = Web(*STAGGERED), Web(*CROSSED)
        for picks in pick_lists():
            told = run(web, None, [1, 2], picks)
            run(other, 2, [0], picks)
            beside = Net(web, None)
            beside.wake(5)
            self.assertEqual(run(web, None, [1, 2], picks), told)

    def test_the_list_told_is_changed_by_the_asker(self):
        web = Web(*TRIANGLE)
        told = run(web, None, [1], [])
        told[1].append(2)
        self.assertEqual(run(web, None, [1], [])[1], [0, 1])
        self.assertEqual(tree(web), [0, 1])


if __name__ == "__main__":
    unittest.main()
