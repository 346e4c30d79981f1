"""Promises [4] to [8], how hands stand, wake and answer letters, told as stories of nets (see stories.py)."""

import unittest

from lettertree.webs import Web
from tests.stories import rows_of, story

TRIANGLE = (3, [(0, 1, 4), (0, 2, 3), (1, 2, 5)])
FORK = (3, [(0, 1, 1), (0, 2, 2)])
KITE = (4, [(0, 1, 1), (0, 3, 2), (0, 2, 3), (1, 3, 4), (2, 3, 5)])
CHAIN = (6, [(0, 1, 1), (1, 2, 2), (2, 3, 3), (3, 4, 6), (4, 5, 4)])
PAIRS = (6, [(2, 3, 1), (0, 1, 2), (4, 5, 3), (3, 4, 4), (1, 2, 5)])


class Stories(unittest.TestCase):
    maxDiff = None

    def told(self, web, *texts, mute=None):
        text = "\n".join(texts)
        self.assertEqual(story(Web(*web), mute, text), rows_of(text))


class Waking(Stories):
    def test_asleep_at_first(self):
        self.told(TRIANGLE, """
            hand 0: False 0 None [] [] False
            hand 1: False 0 None [] [] False
            hand 2: False 0 None [] [] False
        """)

    def test_by_itself_over_the_cheapest_road(self):
        self.told(TRIANGLE, """
            wake 0: 0>2 joins 0
            hand 0: True 0 None [2] [] False
            hand 2: False 0 None [] [] False
            wake 1: 1>0 joins 0
            hand 1: True 0 None [0] [] False
            hand 0: True 0 None [2] [] False
        """)
        self.told((4, [(1, 3, 30), (0, 1, 20), (1, 2, 10)]), "wake 1: 1>2 joins 0")
        self.told((4, [(1, 3, 10), (0, 1, 20), (1, 2, 30)]), "wake 1: 1>3 joins 0")
        self.told((4, [(1, 3, 30), (0, 1, 9), (1, 2, 10)]), "wake 1: 1>0 joins 0")

    def test_awake_it_stays_as_it_is(self):
        self.told(TRIANGLE, """
            wake 0: 0>2 joins 0
            wake 0:
            hand 0: True 0 None [2] [] False
            0>2 joins 0: 2>0 joins 0, 2>0 is 1 3 finds
            wake 2:
            hand 2: True 0 None [0] [] False
            2>0 joins 0: 0>2 is 1 3 finds
            2>0 is 1 3 finds: 0>1 asks 1 3
            wake 0:
            hand 0: True 1 3 [2] [] False
        """)

    def test_by_joins_over_its_own_cheapest_road_it_joins_ahead_of_the_answer(self):
        self.told(FORK, """
            wake 1: 1>0 joins 0
            1>0 joins 0: 0>1 joins 0, 0>1 is 1 1 finds
            hand 0: True 0 None [1] [] False
        """)

    def test_by_joins_over_another_road_it_joins_elsewhere(self):
        self.told(FORK, """
            wake 2: 2>0 joins 0
            2>0 joins 0: 0>1 joins 0
            hand 0: True 0 None [1] [] False
        """)

    def test_by_asks(self):
        self.told(FORK, """
            wake 0: 0>1 joins 0
            0>1 joins 0: 1>0 joins 0, 1>0 is 1 1 finds
            1>0 joins 0: 0>1 is 1 1 finds
            1>0 is 1 1 finds: 0>2 asks 1 1
            0>2 asks 1 1: 2>0 joins 0
            hand 2: True 0 None [0] [] False
        """)

    def test_a_hand_without_roads(self):
        self.told((1, []), """
            hand 0: False 0 None [] [] False
            wake 0:
            hand 0: True 0 None [] [] True
            wake 0:
            hand 0: True 0 None [] [] True
        """)


class TwoHands(Stories):
    def test_one_wakes(self):
        self.told((2, [(0, 1, 57)]), """
            wake 1: 1>0 joins 0
            1>0 joins 0: 0>1 joins 0, 0>1 is 1 57 finds
            hand 0: True 0 None [1] [] False
            0>1 joins 0: 1>0 is 1 57 finds
            0>1 is 1 57 finds: 1>0 least None
            hand 1: True 1 57 [0] [] False
            1>0 is 1 57 finds: 0>1 least None
            1>0 least None:
            hand 0: True 1 57 [1] [] True
            hand 1: True 1 57 [0] [] False
            0>1 least None:
            hand 1: True 1 57 [0] [] True
        """)

    def test_both_wake_and_least_from_inward_waits_while_the_hand_seeks(self):
        self.told(FORK, """
            wake 0: 0>1 joins 0
            wake 1: 1>0 joins 0
            0>1 joins 0: 1>0 is 1 1 finds
            1>0 joins 0: 0>1 is 1 1 finds
            0>1 is 1 1 finds: 1>0 least None
            1>0 is 1 1 finds: 0>2 asks 1 1
            1>0 least None:
            hand 0: True 1 1 [1] [] False
            wake 2: 2>0 joins 0
            2>0 joins 0: 0>2 is 1 1 finds
            0>2 asks 1 1:
            0>2 is 1 1 finds: 2>0 least None, 2>0 no
            2>0 least None:
            hand 0: True 1 1 [1, 2] [] False
            2>0 no: 0>1 least None, 0>2 over
            hand 0: True 1 1 [1, 2] [] True
            0>1 least None:
            0>2 over:
            hand 1: True 1 1 [0] [] True
            hand 2: True 1 1 [0] [] True
        """)


class OnePiece(Stories):
    def test_triangle(self):
        # Hands 1 and 2 ask each other: each marks the road out at the other's asks, and nobody says no there.
        # Hand 0 reports behind hand 1's least alone; the no comes over a road marked tree, which stays so.
        self.told(TRIANGLE, """
            wake 0: 0>2 joins 0
            0>2 joins 0: 2>0 joins 0, 2>0 is 1 3 finds
            2>0 joins 0: 0>2 is 1 3 finds
            2>0 is 1 3 finds: 0>1 asks 1 3
            0>1 asks 1 3: 1>0 joins 0
            1>0 joins 0: 0>1 is 1 3 finds
            hand 0: True 1 3 [1, 2] [] False
            0>2 is 1 3 finds: 2>1 asks 1 3
            2>1 asks 1 3:
            hand 1: True 0 None [0] [] False
            0>1 is 1 3 finds: 1>0 no, 1>0 least None, 1>2 asks 1 3
            hand 1: True 1 3 [0] [2] False
            1>2 asks 1 3: 2>0 least None
            hand 2: True 1 3 [0] [1] False
            1>0 no:
            hand 0: True 1 3 [1, 2] [] False
            1>0 least None: 0>2 least None
            0>2 least None:
            hand 2: True 1 3 [0] [1] True
            2>0 least None: 0>1 over
            hand 0: True 1 3 [1, 2] [] True
            hand 1: True 1 3 [0] [2] False
            0>1 over:
            hand 1: True 1 3 [0] [2] True
        """)

    def test_joins_of_a_like_level_over_an_open_road_waits_till_it_is_a_lesser_one(self):
        # Hand 0 seeks then: one more least is due to it, though its asks has been answered.
        self.told(FORK, """
            wake 2: 2>0 joins 0
            2>0 joins 0: 0>1 joins 0
            0>1 joins 0: 1>0 joins 0, 1>0 is 1 1 finds
            1>0 joins 0: 0>1 is 1 1 finds
            hand 0: True 0 None [1] [] False
            1>0 is 1 1 finds: 0>2 asks 1 1, 0>2 is 1 1 finds
            hand 0: True 1 1 [1, 2] [] False
            0>2 asks 1 1:
            hand 2: True 0 None [0] [] False
            0>2 is 1 1 finds: 2>0 least None, 2>0 no
            hand 2: True 1 1 [0] [] False
            0>1 is 1 1 finds: 1>0 least None
            1>0 least None:
            2>0 least None:
            2>0 no: 0>1 least None, 0>2 over
            0>1 least None:
            0>2 over:
        """)

    KITE_JOINED = """
            wake 3: 3>0 joins 0
            3>0 joins 0: 0>1 joins 0
            wake 2: 2>0 joins 0
            2>0 joins 0:
            0>1 joins 0: 1>0 joins 0, 1>0 is 1 1 finds
            1>0 joins 0: 0>1 is 1 1 finds
            1>0 is 1 1 finds: 0>2 is 1 1 finds, 0>3 asks 1 1, 0>3 is 1 1 finds
            0>1 is 1 1 finds: 1>3 asks 1 1
            0>2 is 1 1 finds: 2>3 asks 1 1
    """

    def test_asks_of_a_greater_level_are_answered_in_their_order_hand_2_first(self):
        # Hand 3 has asked hand 1 itself, its cheapest open road; hand 2 is told no ahead of that.
        self.told(KITE, self.KITE_JOINED, """
            2>3 asks 1 1:
            1>3 asks 1 1:
            0>3 asks 1 1:
            hand 3: True 0 None [0] [] False
            0>3 is 1 1 finds: 3>0 least None, 3>0 no, 3>1 asks 1 1, 3>2 no
            hand 3: True 1 1 [0] [1, 2] False
        """)

    def test_asks_of_a_greater_level_are_answered_in_their_order_hand_1_first(self):
        # Hand 3 has asked hand 1 itself, and behind that asks hand 2, ahead of the answer to hand 2.
        self.told(KITE, self.KITE_JOINED, """
            1>3 asks 1 1:
            2>3 asks 1 1:
            0>3 asks 1 1:
            0>3 is 1 1 finds: 3>0 least None, 3>0 no, 3>1 asks 1 1, 3>2 asks 1 1
            hand 3: True 1 1 [0] [1, 2] False
            3>1 asks 1 1: 1>0 least None
            hand 1: True 1 1 [0] [3] False
            3>2 asks 1 1: 2>0 least None
            hand 2: True 1 1 [0] [3] False
        """)

    def test_asks_by_the_own_name_over_an_open_road(self):
        # Hands 1 and 3 ask each other, and no letter no goes between them; hand 2 is told no by hand 3.
        # Hand 1's least from inward lies aside at hand 0 till hand 2's has come: all is over then.
        self.told(KITE, self.KITE_JOINED, """
            0>3 asks 1 1:
            0>3 is 1 1 finds: 3>0 no, 3>1 asks 1 1
            3>1 asks 1 1: 1>0 least None
            hand 1: True 1 1 [0] [3] False
            2>3 asks 1 1: 3>2 no
            hand 3: True 1 1 [0] [2] False
            3>2 no: 2>0 least None
            hand 2: True 1 1 [0] [3] False
            1>3 asks 1 1: 3>0 least None
            hand 3: True 1 1 [0] [1, 2] False
            3>0 no:
            1>0 least None:
            3>0 least None:
            2>0 least None: 0>1 least None, 0>2 over, 0>3 over
            0>1 least None:
            hand 1: True 1 1 [0] [3] True
        """)


class PiecesJoin(Stories):
    MIDDLE_HAS_LEASTS = """
            wake 0: 0>1 joins 0
            wake 2: 2>3 joins 0
            wake 4: 4>5 joins 0
            0>1 joins 0: 1>0 joins 0, 1>0 is 1 2 finds
            1>0 joins 0: 0>1 is 1 2 finds
            1>0 is 1 2 finds: 0>1 least None
            0>1 is 1 2 finds: 1>2 asks 1 2
            2>3 joins 0: 3>2 joins 0, 3>2 is 1 1 finds
            3>2 joins 0: 2>3 is 1 1 finds
            3>2 is 1 1 finds: 2>1 asks 1 1
            2>3 is 1 1 finds: 3>4 asks 1 1
            4>5 joins 0: 5>4 joins 0, 5>4 is 1 3 finds
            5>4 joins 0: 4>5 is 1 3 finds
            5>4 is 1 3 finds: 4>3 asks 1 3
            4>5 is 1 3 finds: 5>4 least None
            2>1 asks 1 1: 1>2 yes
            1>2 asks 1 2: 2>1 yes
            1>2 yes: 2>3 least 5
            3>4 asks 1 1: 4>3 yes
            4>3 asks 1 3: 3>4 yes
            4>3 yes: 3>2 least 4
            hand 2: True 1 1 [3] [] False
            hand 3: True 1 1 [2] [] False
    """

    def test_of_two_ways_out_the_cheaper_one_is_gone(self):
        # Hands 2 and 3 each know a way out, and hear the other's cost: only hand 3 goes.
        self.told(PAIRS, self.MIDDLE_HAS_LEASTS, """
            2>3 least 5: 3>4 joins 1
            3>2 least 4:
            hand 2: True 1 1 [3] [] False
            hand 3: True 1 1 [2, 4] [] False
        """)

    def test_the_whole_web(self):
        # Hand 4's least from inward waits till it seeks no more; hand 1 goes at level 1 though hand 2 is at 2 by then.
        self.told(PAIRS, self.MIDDLE_HAS_LEASTS, """
            3>2 least 4:
            2>3 least 5: 3>4 joins 1
            5>4 least None:
            3>4 yes: 4>3 joins 1, 4>5 least 4
            4>5 least 4:
            hand 4: True 1 3 [3, 5] [] False
            hand 5: True 1 3 [4] [] False
            4>3 joins 1: 3>4 is 2 4 finds
            3>4 joins 1: 4>3 is 2 4 finds
            4>3 is 2 4 finds: 3>2 is 2 4 finds
            hand 3: True 2 4 [2, 4] [] False
            3>4 is 2 4 finds: 4>5 is 2 4 finds
            4>5 is 2 4 finds: 5>4 least None
            5>4 least None: 4>3 least None
            4>3 least None:
            3>2 is 2 4 finds: 2>1 asks 2 4
            2>1 yes: 1>0 least 5
            2>1 asks 2 4:
            1>0 least 5:
            hand 0: True 1 2 [1] [] False
            0>1 least None: 1>2 joins 1
            hand 1: True 1 2 [0, 2] [] False
            1>2 joins 1: 2>1 is 2 4 finds
            2>1 is 2 4 finds: 1>0 is 2 4 finds, 1>2 no
            hand 1: True 2 4 [0, 2] [] False
            1>2 no:
            hand 2: True 2 4 [1, 3] [] False
            1>0 is 2 4 finds: 0>1 least None
            0>1 least None: 1>2 least None
            1>2 least None: 2>3 least None
            2>3 least None: 3>2 over, 3>4 least None
            3>4 least None: 4>5 over
            4>5 over:
            3>2 over: 2>1 over
            2>1 over: 1>0 over
            hand 0: True 2 4 [1] [] False
            1>0 over:
            hand 0: True 2 4 [1] [] True
        """)

    def test_joins_to_a_hand_that_seeks_no_more(self):
        # Hand 4 takes the state found: it asks nobody, and no least is due for it till the piece seeks anew.
        self.told((5, [(0, 1, 2), (2, 3, 1), (0, 2, 3), (0, 4, 4)]), """
            wake 2: 2>3 joins 0
            2>3 joins 0: 3>2 joins 0, 3>2 is 1 1 finds
            3>2 joins 0: 2>3 is 1 1 finds
            3>2 is 1 1 finds: 2>0 asks 1 1
            wake 0: 0>1 joins 0
            0>1 joins 0: 1>0 joins 0, 1>0 is 1 2 finds
            1>0 joins 0: 0>1 is 1 2 finds
            1>0 is 1 2 finds: 0>2 asks 1 2
            0>2 asks 1 2: 2>0 yes
            2>0 asks 1 1: 0>2 yes
            2>0 yes: 0>1 least 3
            wake 4: 4>0 joins 0
            4>0 joins 0: 0>4 is 1 2 found
            hand 0: True 1 2 [1, 4] [] False
            0>4 is 1 2 found:
            hand 4: True 1 2 [0] [] False
            0>1 is 1 2 finds: 1>0 least None
            0>1 least 3:
            1>0 least None: 0>2 joins 1
            hand 0: True 1 2 [1, 2, 4] [] False
            0>2 yes: 2>3 least 3
            0>2 joins 1:
            2>3 is 1 1 finds: 3>2 least None
            3>2 least None: 2>0 joins 1, 2>0 is 2 3 finds
            2>3 least 3:
            2>0 joins 1: 0>2 is 2 3 finds
            0>2 is 2 3 finds: 2>3 is 2 3 finds
            2>0 is 2 3 finds: 0>1 is 2 3 finds, 0>4 is 2 3 finds
            0>4 is 2 3 finds: 4>0 least None
            0>1 is 2 3 finds: 1>0 least None
            4>0 least None:
            1>0 least None: 0>2 least None
            2>3 is 2 3 finds: 3>2 least None
            3>2 least None: 2>0 least None
            0>2 least None: 2>3 over
            2>0 least None: 0>1 over, 0>4 over
            0>1 over:
            0>4 over:
            2>3 over:
        """)

    def test_goes_over_roads_marked_tree_and_over_an_open_one(self):
        # Hand 1 hears None from inward and goes; the way out is hand 3's. Hand 4 has hand 3's joins lie aside.
        self.told(CHAIN, """
            wake 0: 0>1 joins 0
            0>1 joins 0: 1>0 joins 0, 1>0 is 1 1 finds
            1>0 joins 0: 0>1 is 1 1 finds
            1>0 is 1 1 finds: 0>1 least None
            wake 2: 2>1 joins 0
            2>1 joins 0:
            0>1 is 1 1 finds: 1>2 asks 1 1, 1>2 is 1 1 finds
            1>2 asks 1 1:
            1>2 is 1 1 finds: 2>1 no, 2>3 asks 1 1
            2>3 asks 1 1: 3>2 joins 0
            3>2 joins 0: 2>3 is 1 1 finds
            2>3 is 1 1 finds: 3>2 no, 3>4 asks 1 1
            wake 5: 5>4 joins 0
            5>4 joins 0: 4>5 joins 0, 4>5 is 1 4 finds
            4>5 joins 0: 5>4 is 1 4 finds
            4>5 is 1 4 finds: 5>4 least None
            5>4 is 1 4 finds: 4>3 asks 1 4
            3>4 asks 1 1: 4>3 yes
            4>3 asks 1 4: 3>4 yes
            4>3 yes: 3>2 least 6
            3>2 no:
            2>1 no:
            3>2 least 6: 2>1 least 6
            2>1 least 6: 1>0 least 6
            0>1 least None: 1>2 goes
            hand 1: True 1 1 [0, 2] [] False
            1>0 least 6:
            1>2 goes: 2>3 goes
            hand 3: True 1 1 [2] [] False
            2>3 goes: 3>4 joins 1
            hand 3: True 1 1 [2, 4] [] False
            3>4 yes: 4>5 least 6
            3>4 joins 1:
            hand 4: True 1 4 [5] [] False
            5>4 least None: 4>3 joins 1, 4>3 is 2 6 finds
            hand 4: True 1 4 [3, 5] [] False
            4>5 least 6:
            4>3 joins 1: 3>4 is 2 6 finds
            4>3 is 2 6 finds: 3>2 is 2 6 finds
            3>2 is 2 6 finds: 2>1 is 2 6 finds
            hand 2: True 2 6 [1, 3] [] False
        """)


class WaysOut(Stories):
    """Hand 0 knows one way out by a yes of hand 3, and another one by a least of hand 2."""

    AHEAD = """
            wake 2: 2>0 joins 0
            2>0 joins 0: 0>1 joins 0
            0>1 joins 0: 1>0 joins 0, 1>0 is 1 1 finds
            1>0 joins 0: 0>1 is 1 1 finds
            1>0 is 1 1 finds: 0>2 asks 1 1, 0>2 is 1 1 finds
            wake 3: 3>4 joins 0
            3>4 joins 0: 4>3 joins 0, 4>3 is 1 3 finds
            4>3 joins 0: 3>4 is 1 3 finds
            4>3 is 1 3 finds: 3>0 asks 1 3
            3>4 is 1 3 finds: 4>2 asks 1 3
            0>2 asks 1 1:
            0>2 is 1 1 finds: 2>0 no, 2>4 asks 1 1
            2>0 no: 0>3 asks 1 1
            3>0 asks 1 3: 0>3 yes
            4>2 asks 1 3: 2>4 yes
            2>4 asks 1 1: 4>2 yes
            0>3 asks 1 1: 3>0 yes
    """

    def behind(self, by_yes, by_least, *texts):
        web = (5, [(0, 1, 1), (0, 2, 2), (3, 4, 3), (0, 3, by_yes), (2, 4, by_least)])
        self.told(web, self.AHEAD, *texts)

    GOES_BY_YES = """
            0>1 is 1 1 finds: 1>0 least None
            0>1 least 8:
            1>0 least None: 0>3 joins 1
            hand 0: True 1 1 [1, 2, 3] [] False
    """

    GOES_BY_LEAST = """
            0>1 is 1 1 finds: 1>0 least None
            0>1 least 8:
            1>0 least None: 0>2 goes
            hand 0: True 1 1 [1, 2] [] False
            0>2 goes: 2>4 joins 1
            hand 2: True 1 1 [0, 4] [] False
    """

    def test_a_cheaper_yes_ahead_of_a_dearer_least(self):
        self.behind(8, 9, """
            3>0 yes:
            4>2 yes: 2>0 least 9
            2>0 least 9: 0>1 least 8
        """, self.GOES_BY_YES)

    def test_a_dearer_least_ahead_of_a_cheaper_yes(self):
        self.behind(8, 9, """
            4>2 yes: 2>0 least 9
            2>0 least 9:
            3>0 yes: 0>1 least 8
        """, self.GOES_BY_YES)

    def test_a_dearer_yes_ahead_of_a_cheaper_least(self):
        self.behind(9, 8, """
            3>0 yes:
            4>2 yes: 2>0 least 8
            2>0 least 8: 0>1 least 8
        """, self.GOES_BY_LEAST)

    def test_a_cheaper_least_ahead_of_a_dearer_yes(self):
        self.behind(9, 8, """
            4>2 yes: 2>0 least 8
            2>0 least 8:
            3>0 yes: 0>1 least 8
        """, self.GOES_BY_LEAST)


if __name__ == "__main__":
    unittest.main()
