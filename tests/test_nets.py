"""Promise [10], nets with a silent hand and without, and of promises [1] and [5] what concerns nets."""

import copy
import unittest
from itertools import product

from lettertree import nets
from lettertree.errors import NoHand, NoLetter
from lettertree.nets import Net
from lettertree.webs import Web
from tests.samples import CROSSED
from tests.stories import rows_of, story

TRIANGLE = (3, [(0, 1, 4), (0, 2, 3), (1, 2, 5)])
# On the way to its end letters of all kinds are sent.
SIX = (6, [(0, 1, 1), (1, 2, 2), (2, 3, 3), (3, 4, 6), (4, 5, 4), (2, 4, 9)])
CHAIN = (4, [(0, 1, 1), (1, 2, 2), (2, 3, 3)])
NUMBERS = (-100, -9, -8, -2, -1, 0, 1, 2, 3, 4, 5, 8, 100)


def all_told(net, hands):
    """All that a net tells without a change to it."""
    pairs = list(product(range(hands), repeat=2))
    return copy.deepcopy((
        net.under_way(), [net.letters(one, other) for one, other in pairs], net.sent(),
        [net.knows(hand) for hand in range(hands)], net.silent(),
    ))


def times(hands, roads, mute, woken):
    """The net at each time from its making to its end, letters carried from the last way on."""
    net = Net(Web(hands, roads), mute)
    yield net
    for hand in woken:
        net.wake(hand)
        yield net
    while net.under_way():
        net.carry(*net.under_way()[-1])
        yield net


class Interface(unittest.TestCase):
    def test_it_stands_in_its_file(self):
        self.assertEqual((Net.__module__, nets.run.__module__), ("lettertree.nets", "lettertree.nets"))
        for name in ("__init__", "wake", "under_way", "letters", "carry", "sent", "knows", "silent"):
            self.assertIn(name, vars(Net))

    def test_kinds_of_what_is_told(self):
        for net in times(*TRIANGLE, None, [1]):
            self.assertIs(type(net.under_way()), list)
            for way in net.under_way():
                self.assertEqual((type(way), type(way[0]), type(way[1])), (tuple, int, int))
                self.assertIs(type(net.letters(*way)), list)
                for letter in net.letters(*way):
                    self.assertIs(type(letter), tuple)
            self.assertIs(type(net.sent()), int)
            for hand in range(3):
                told = net.knows(hand)
                self.assertIs(type(told), tuple)
                self.assertEqual([type(part) for part in told[:2]], [bool, int])
                self.assertEqual([type(part) for part in told[3:]], [list, list, bool])

    def test_wake_tells_nothing(self):
        net = Net(Web(*TRIANGLE), None)
        self.assertIsNone(net.wake(0))
        self.assertIsNone(net.wake(0))


class New(unittest.TestCase):
    def test_all_hands_sleep_and_nothing_is_under_way(self):
        for mute in (None, 0, 4):
            net = Net(Web(*CROSSED), mute)
            self.assertEqual((net.under_way(), net.sent(), net.silent()), ([], 0, None))
            for hand in range(5):
                self.assertEqual(net.knows(hand), (False, 0, None, [], [], False))
            for one, other in product(range(5), repeat=2):
                self.assertEqual(net.letters(one, other), [])


class UnderWay(unittest.TestCase):
    def test_letters_are_carried_in_the_order_in_which_they_were_sent(self):
        net = Net(Web(*TRIANGLE), None)
        net.wake(0)
        self.assertEqual(net.carry(0, 2), ("joins", 0))
        self.assertEqual(net.letters(2, 0), [("joins", 0), ("is", 1, 3, "finds")])
        self.assertEqual(net.carry(2, 0), ("joins", 0))
        self.assertEqual(net.letters(2, 0), [("is", 1, 3, "finds")])
        self.assertEqual(net.carry(2, 0), ("is", 1, 3, "finds"))
        self.assertEqual(net.letters(2, 0), [])

    def test_letters_are_of_the_kinds_that_there_are(self):
        kinds = {("joins", 2), ("is", 4), ("asks", 3), ("yes", 1), ("no", 1), ("least", 2), ("goes", 1), ("over", 1)}
        seen = set()
        for net in times(*SIX, None, [2, 0, 4]):
            for way in net.under_way():
                seen.update((letter[0], len(letter)) for letter in net.letters(*way))
        self.assertEqual(seen, kinds)

    def test_ways_are_rising(self):
        for roads in (CROSSED[1], CROSSED[1][::-1]):
            for net in times(5, roads, None, [4, 1, 3, 0, 2]):
                ways = net.under_way()
                self.assertEqual(ways, sorted(set(ways)))
                with_letters = [way for way in product(range(5), repeat=2) if net.letters(*way)]
                self.assertEqual(ways, with_letters)

    def test_both_directions_of_a_road_are_ways_of_their_own(self):
        net = Net(Web(2, [(0, 1, 5)]), None)
        net.wake(1)
        self.assertEqual((net.under_way(), net.letters(0, 1)), ([(1, 0)], []))
        net.wake(0)
        self.assertEqual(net.under_way(), [(0, 1), (1, 0)])

    def test_sent_counts_what_was_sent_and_not_what_came(self):
        net = Net(Web(*TRIANGLE), None)
        net.wake(0)
        net.wake(1)
        self.assertEqual(net.sent(), 2)
        net.carry(0, 2)
        self.assertEqual(net.sent(), 4)
        net.carry(1, 0)
        self.assertEqual(net.sent(), 4)

    def test_each_letter_comes_once(self):
        for mute in (None, 1, 3):
            nets_told = list(enumerate(times(*CROSSED, mute, [0, 2])))
            turn, net = nets_told[-1]
            self.assertEqual(net.sent(), turn - 2)


class Silent(unittest.TestCase):
    maxDiff = None

    def told(self, web, mute, text):
        self.assertEqual(story(Web(*web), mute, text), rows_of(text))

    def test_letters_to_it_are_lost(self):
        self.told(TRIANGLE, 1, """
            wake 0: 0>2 joins 0
            0>2 joins 0: 2>0 joins 0, 2>0 is 1 3 finds
            2>0 joins 0: 0>2 is 1 3 finds
            2>0 is 1 3 finds: 0>1 asks 1 3
            0>1 asks 1 3:
            hand 1: False 0 None [] [] False
            0>2 is 1 3 finds: 2>1 asks 1 3
            2>1 asks 1 3:
            hand 0: True 1 3 [2] [] False
            hand 1: False 0 None [] [] False
            hand 2: True 1 3 [0] [] False
        """)

    def test_joins_to_it_is_lost(self):
        self.told(TRIANGLE, 2, """
            wake 0: 0>2 joins 0
            wake 1: 1>0 joins 0
            0>2 joins 0:
            1>0 joins 0:
            hand 0: True 0 None [2] [] False
            hand 2: False 0 None [] [] False
        """)

    def test_it_is_told_once_a_letter_has_come_to_it(self):
        net = Net(Web(*CHAIN), 2)
        net.wake(0)
        while (1, 2) not in net.under_way():
            self.assertIsNone(net.silent())
            net.carry(*net.under_way()[0])
        self.assertIsNone(net.silent())
        net.carry(1, 2)
        self.assertEqual(net.silent(), 2)
        net.wake(3)
        self.assertEqual(net.silent(), 2)
        net.carry(3, 2)
        self.assertEqual(net.silent(), 2)

    def test_hand_0_is_told_as_the_hand_0(self):
        net = Net(Web(*CHAIN), 0)
        net.wake(1)
        self.assertIsNone(net.silent())
        net.carry(1, 0)
        self.assertEqual(net.silent(), 0)
        self.assertIs(type(net.silent()), int)

    def test_none_is_told_without_one(self):
        for net in times(*CROSSED, None, [3]):
            self.assertIsNone(net.silent())
        for net in times(*CHAIN, None, [0, 3]):
            self.assertIsNone(net.silent())

    def test_none_is_told_when_no_other_one_woke(self):
        self.assertIsNone(Net(Web(*CHAIN), 1).silent())
        self.assertIsNone(Net(Web(1, []), 0).silent())

    def test_one_hand_that_is_silent(self):
        net = Net(Web(1, []), 0)
        self.assertIsNone(net.wake(0))
        self.assertEqual(net.knows(0), (False, 0, None, [], [], False))
        self.assertEqual((net.under_way(), net.sent(), net.silent()), ([], 0, None))

    def test_it_does_not_wake_when_it_is_to(self):
        for mute in range(5):
            woken = [hand for hand in range(5) if hand != mute]
            for net in times(*CROSSED, mute, woken):
                before = all_told(net, 5)
                self.assertIsNone(net.wake(mute))
                self.assertIsNone(net.wake(mute))
                self.assertEqual(all_told(net, 5), before)
            self.assertEqual(net.silent(), mute)

    def test_it_does_not_wake_amid_a_story(self):
        self.told(TRIANGLE, 2, """
            wake 2:
            wake 0: 0>2 joins 0
            wake 2:
            0>2 joins 0:
            wake 2:
            wake 1: 1>0 joins 0
            hand 2: False 0 None [] [] False
            1>0 joins 0:
            hand 0: True 0 None [2] [] False
        """)

    def test_nothing_is_ever_over(self):
        for mute in range(5):
            woken = [hand for hand in range(5) if hand != mute]
            for net in times(*CROSSED, mute, woken):
                self.assertFalse(any(net.knows(hand)[5] for hand in range(5)))
                self.assertEqual(net.knows(mute), (False, 0, None, [], [], False))
            self.assertEqual(net.silent(), mute)


class Refused(unittest.TestCase):
    def refused(self, error, net, hands, asked):
        before = all_told(net, hands)
        with self.assertRaises(error) as caught:
            asked()
        self.assertIs(type(caught.exception), error)
        self.assertEqual(all_told(net, hands), before)

    def no_hands(self, hands):
        return [number for number in NUMBERS if not 0 <= number < hands]

    def test_a_silent_hand_that_there_is_not(self):
        for hands in (1, 3, 8):
            web = Web(hands, [(hand, hand + 1, hand + 1) for hand in range(hands - 1)])
            for number in self.no_hands(hands):
                with self.assertRaises(NoHand) as caught:
                    Net(web, number)
                self.assertIs(type(caught.exception), NoHand)
            for mute in range(hands):
                Net(web, mute)

    def test_hands_that_there_are_not(self):
        for mute in (None, 2):
            for net in times(*TRIANGLE, mute, [0, 1]):
                for number in self.no_hands(3):
                    self.refused(NoHand, net, 3, lambda: net.wake(number))
                    self.refused(NoHand, net, 3, lambda: net.knows(number))
                    for hand in (0, 1, 2, number):
                        self.refused(NoHand, net, 3, lambda: net.letters(hand, number))
                        self.refused(NoHand, net, 3, lambda: net.letters(number, hand))
                        self.refused(NoHand, net, 3, lambda: net.carry(hand, number))
                        self.refused(NoHand, net, 3, lambda: net.carry(number, hand))

    def test_the_one_hand_of_a_web_alone(self):
        net = Net(Web(1, []), None)
        for number in self.no_hands(1):
            self.refused(NoHand, net, 1, lambda: net.wake(number))
            self.refused(NoHand, net, 1, lambda: net.carry(0, number))

    def test_hands_that_there_are_not_behind_the_silent_one(self):
        for mute in range(3):
            net = Net(Web(*TRIANGLE), mute)
            net.wake(mute)
            for number in self.no_hands(3):
                self.refused(NoHand, net, 3, lambda: net.wake(number))

    def test_the_silent_hand_is_a_hand_that_there_is(self):
        net = Net(Web(*TRIANGLE), 1)
        self.assertEqual(net.knows(1), (False, 0, None, [], [], False))
        self.assertEqual((net.letters(1, 0), net.letters(0, 1)), ([], []))

    def test_no_letter_under_way(self):
        for mute in (None, 0, 2):
            for net in times(*CHAIN, mute, [1, 3]):
                for one, other in product(range(4), repeat=2):
                    if not net.letters(one, other):
                        self.refused(NoLetter, net, 4, lambda: net.carry(one, other))

    def test_no_letter_from_the_silent_hand(self):
        for net in times(*TRIANGLE, 0, [1, 2]):
            for other in range(3):
                self.refused(NoLetter, net, 3, lambda: net.carry(0, other))


class NothingIsShared(unittest.TestCase):
    def test_the_same_is_told_again(self):
        for mute in (None, 3):
            for net in times(*CROSSED, mute, [0, 1]):
                self.assertEqual(all_told(net, 5), all_told(net, 5))

    def test_lists_told_are_changed_by_the_asker(self):
        for mute in (None, 3):
            for net in times(*CROSSED, mute, [0, 1]):
                before = all_told(net, 5)
                pairs = product(range(5), repeat=2)
                lists = [net.under_way()] + [net.letters(one, other) for one, other in pairs]
                for hand in range(5):
                    lists += [net.knows(hand)[3], net.knows(hand)[4]]
                for told in lists:
                    told.append((0, 1))
                    told.reverse()
                self.assertEqual(all_told(net, 5), before)
                for told in lists:
                    told.clear()
                self.assertEqual(all_told(net, 5), before)

    def test_lists_told_stay_as_they_were_told(self):
        net = Net(Web(*TRIANGLE), None)
        net.wake(0)
        ways, letters, marked = net.under_way(), net.letters(0, 2), net.knows(0)[3]
        while net.under_way():
            net.carry(*net.under_way()[0])
        self.assertEqual((ways, letters, marked), ([(0, 2)], [("joins", 0)], [2]))

    def test_a_net_goes_on_alike_when_what_it_told_is_changed(self):
        told = [all_told(net, 5) for net in times(*CROSSED, None, [4])]
        for turn, net in enumerate(times(*CROSSED, None, [4])):
            self.assertEqual(all_told(net, 5), told[turn])
            for hand in range(5):
                net.knows(hand)[3].clear()
                net.knows(hand)[4].append(hand)
            for way in net.under_way():
                net.letters(*way).clear()
            net.under_way().clear()

    def test_the_web_is_not_changed(self):
        hands, roads = CROSSED
        web = Web(hands, list(roads))
        net = Net(web, None)
        net.wake(0)
        while net.under_way():
            net.carry(*net.under_way()[0])
        self.assertEqual((web.hands(), web.roads()), (hands, roads))

    def test_what_the_web_told_is_changed_between(self):
        hands, roads = CROSSED
        handed = list(roads)
        web = Web(hands, handed)
        net = Net(web, None)
        handed.clear()
        web.roads().clear()
        net.wake(0)
        other = next(iter(times(hands, roads, None, [])))
        other.wake(0)
        self.assertEqual(all_told(net, hands), all_told(other, hands))

    def test_nets_of_one_web_and_of_another_one_are_apart(self):
        alone = [all_told(net, 5) for net in times(*CROSSED, None, [0, 3])]
        web = Web(*CROSSED)
        net, beside, small = Net(web, None), Net(web, 2), Net(Web(*TRIANGLE), None)
        told = [all_told(net, 5)]
        for hand in (0, 3):
            beside.wake(hand)
            small.wake(1)
            net.wake(hand)
            told.append(all_told(net, 5))
        while net.under_way():
            for another in (beside, small):
                if another.under_way():
                    another.carry(*another.under_way()[0])
            net.carry(*net.under_way()[-1])
            told.append(all_told(net, 5))
        self.assertEqual(told, alone)


if __name__ == "__main__":
    unittest.main()
