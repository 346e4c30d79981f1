"""Promise [9], what holds whichever hands wake and in whatever order letters come, and the ends of [10] beside it."""

import unittest

from lettertree.nets import Net
from lettertree.webs import Web, tree
from tests.samples import CROSSED, large_webs, small_webs

LEVELS = (0, 0, 1, 1, 2, 2, 2, 2, 3)


def first(ways, turn):
    return ways[0]


def last(ways, turn):
    return ways[-1]


def turning(ways, turn):
    """Another place at each turn, of no short period."""
    return ways[(turn * turn + 7 * turn // 3) % len(ways)]


def slow_to(hand):
    """Letters to a hand come only when there are no others."""
    return lambda ways, turn: min(ways, key=lambda way: (way[1] == hand, way[0], -way[1]))


def slow_from(hand):
    """Letters from a hand come only when there are no others."""
    return lambda ways, turn: max(ways, key=lambda way: (way[0] != hand, way[1], -way[0]))


def slow_over(roads, most):
    """Letters over the cheapest roads come last, or those over the dearest."""
    costs = {(one, other): cost for one, other, cost in roads}
    return lambda ways, turn: most(ways, key=lambda way: (costs[min(way), max(way)], way))


def orders(hands, roads):
    """Ways to pick the next letter."""
    some = [first, last, turning, slow_over(roads, min), slow_over(roads, max)]
    return some + [slow_to(0), slow_to(hands - 1), slow_from(hands // 2)]


def wakings(hands, mute, step):
    """Which hands wake at first, and which one amid at which turn: each time another choice."""
    able = [hand for hand in range(hands) if hand != mute]
    at = step % len(able)
    yield able[at:at + 1], {}
    yield able, {}
    yield able[::2], {3: able[-1], 11: able[at]}
    yield able[at:], {turn: able[turn % len(able)] for turn in range(1, 40, 2)}


class Play:
    """A net played to its end; at each time what the document promises of any time is checked."""

    def __init__(self, case, hands, roads, mute):
        self.case = case
        self.hands = hands
        self.roads = roads
        self.web = Web(hands, roads)
        self.net = Net(self.web, mute)
        self.mute = mute
        chosen = tree(self.web)
        self.inner = self.neighbours([roads[number] for number in chosen])
        self.outer = self.neighbours([road for number, road in enumerate(roads) if number not in chosen])

    def neighbours(self, roads):
        found = [[] for _ in range(self.hands)]
        for one, other, _ in roads:
            found[one].append(other)
            found[other].append(one)
        return [sorted(hands) for hands in found]

    def to_the_end(self, woken, amid, pick):
        for hand in woken:
            self.net.wake(hand)
            self.check()
        turn = 0
        ways = self.net.under_way()
        while ways:
            if turn in amid:
                self.net.wake(amid[turn])
            self.net.carry(*pick(ways, turn))
            self.check()
            turn += 1
            self.case.assertLessEqual(turn, self.most_letters())
            ways = self.net.under_way()
        self.case.assertEqual(turn, self.net.sent())

    def check(self):
        for hand in range(self.hands):
            _, level, _, inner, outer, over = self.net.knows(hand)
            self.case.assertLessEqual(level, LEVELS[self.hands])
            self.case.assertEqual(inner, sorted(inner))
            self.case.assertEqual(outer, sorted(outer))
            self.case.assertLessEqual(set(inner), set(self.inner[hand]))
            self.case.assertLessEqual(set(outer), set(self.outer[hand]))
            self.case.assertFalse(over and self.mute is not None)
        if self.mute is None:
            self.case.assertIsNone(self.net.silent())

    def most_letters(self):
        return 2 * len(self.roads) + 5 * self.hands * LEVELS[self.hands]

    def check_end(self):
        for hand in range(self.hands):
            awake, _, _, inner, outer, over = self.net.knows(hand)
            self.case.assertIs(awake, True)
            self.case.assertIs(over, True)
            self.case.assertEqual((inner, outer), (self.inner[hand], self.outer[hand]))
        self.case.assertLessEqual(self.net.sent(), self.most_letters())

    def check_silent_end(self):
        self.case.assertEqual(self.net.silent(), self.mute)
        self.case.assertEqual(self.net.knows(self.mute), (False, 0, None, [], [], False))


class Ends(unittest.TestCase):
    def played(self, hands, roads, mute, step):
        """Each order with one choice of hands that wake, each time the next one."""
        choices = list(wakings(hands, mute, step))
        for number, pick in enumerate(orders(hands, roads)):
            woken, amid = choices[(number + step) % len(choices)]
            play = Play(self, hands, roads, mute)
            play.to_the_end(woken, amid, pick)
            yield play

    def all_over(self, hands, roads, step):
        for play in self.played(hands, roads, None, step):
            play.check_end()

    def test_small_webs(self):
        for step, (hands, roads) in enumerate(small_webs(3)):
            for shift in range(4):
                self.all_over(hands, roads, step + shift)

    def test_some_webs_of_four_hands(self):
        for step, (hands, roads) in enumerate(small_webs(4)):
            if hands == 4 and step % 29 == 0:
                self.all_over(hands, roads, step)

    def test_large_webs(self):
        for step, (hands, roads) in enumerate(large_webs()):
            self.all_over(hands, roads, step)

    def test_chains_and_rings_of_eight_hands(self):
        for step in (1, 2, 5, 30, 41, 58, 77, 90, 96):
            chain = [(hand, hand + 1, (hand + 1) * step % 97) for hand in range(7)]
            self.all_over(8, chain, step)
            self.all_over(8, chain + [(0, 7, 8 * step % 97)], step)

    def test_stars_of_eight_hands(self):
        for middle in range(8):
            others = [hand for hand in range(8) if hand != middle]
            star = [(min(hand, middle), max(hand, middle), 11 * hand + 1) for hand in others]
            self.all_over(8, star, middle)

    def test_a_silent_hand(self):
        # Nothing is over for any hand then, and behind the last letter the silent hand is known.
        for step, (hands, roads) in enumerate(large_webs()):
            if step % 4 == 0:
                for play in self.played(hands, roads, step % hands, step):
                    play.check_silent_end()

    def test_each_silent_hand_of_small_webs(self):
        for hands, roads in small_webs(3):
            for mute in range(hands if hands > 1 else 0):
                for play in self.played(hands, roads, mute, mute):
                    play.check_silent_end()

    def test_one_hand_alone(self):
        play = Play(self, 1, [], None)
        play.to_the_end([0], {}, first)
        play.check_end()
        self.assertEqual(play.net.sent(), 0)

    def test_nobody_wakes(self):
        play = Play(self, CROSSED[0], CROSSED[1], None)
        play.to_the_end([], {}, first)
        self.assertEqual(play.net.sent(), 0)
        for hand in range(5):
            self.assertEqual(play.net.knows(hand), (False, 0, None, [], [], False))


if __name__ == "__main__":
    unittest.main()
