"""Nets: the hands of a web, and the letters under way between them."""

from lettertree.errors import NoHand, NoLetter
from lettertree.hands import Hand


class Net:
    """A web whose hands wake and write, one of them silent perhaps."""

    def __init__(self, web, mute):
        self._hands = [Hand(costs) for costs in _own_costs(web)]
        if mute is not None:
            self._check_hand(mute)
        self._mute = mute
        self._ways = {}
        for one, other, _ in web.roads():
            self._ways[(one, other)] = []
            self._ways[(other, one)] = []
        self._heard = [False for _ in self._hands]
        self._wrote = [0 for _ in self._hands]

    def wake(self, hand):
        """Let a hand wake by itself; one that is awake or silent stays as it is."""
        self._check_hand(hand)
        if hand != self._mute:
            self._post(hand, self._hands[hand].wake())

    def under_way(self):
        """The ways (from, to) on which a letter is, rising."""
        return [way for way in sorted(self._ways) if self._ways[way]]

    def letters(self, one, other):
        """The letters under way from one hand to the other, the first one first."""
        self._check_hand(one)
        self._check_hand(other)
        return list(self._ways.get((one, other), []))

    def carry(self, one, other):
        """Let the first letter from one hand to the other come, and tell it."""
        if not self.letters(one, other):
            raise NoLetter(f"no letter is under way from hand {one} to hand {other}")
        letter = self._ways[(one, other)].pop(0)
        self._heard[other] = True
        if other != self._mute:
            self._post(other, self._hands[other].hear(one, letter))
        return letter

    def sent(self):
        """How many letters were sent."""
        return sum(self._wrote)

    def knows(self, hand):
        """How a hand stands: (awake, level, name, tree, out, over)."""
        self._check_hand(hand)
        return self._hands[hand].knows()

    def silent(self):
        """The hand to which a letter has come and that never sent one, None without one."""
        for hand, wrote in enumerate(self._wrote):
            if self._heard[hand] and wrote == 0:
                return hand
        return None

    def _post(self, hand, posted):
        for neighbour, letter in posted:
            self._ways[(hand, neighbour)].append(letter)
            self._wrote[hand] += 1

    def _check_hand(self, hand):
        # A number below 0 has to be refused here: as an index it would count from the end.
        if not 0 <= hand < len(self._hands):
            raise NoHand(f"there is no hand {hand}")


def run(web, mute, woken, picks):
    """Wake hands, carry all letters in the picked order; (over, tree, sent, silent) at the end."""
    net = Net(web, mute)
    for hand in woken:
        net.wake(hand)
    turn = 0
    ways = net.under_way()
    while ways:
        pick = picks[turn] if turn < len(picks) else 0
        one, other = ways[pick % len(ways)]
        net.carry(one, other)
        turn += 1
        ways = net.under_way()
    over = all([net.knows(hand)[5] for hand in range(web.hands())])
    return over, _agreed(web, net), net.sent(), net.silent()


def _own_costs(web):
    """For each hand its neighbours, each with the cost of the road there."""
    costs = [{} for _ in range(web.hands())]
    for one, other, cost in web.roads():
        costs[one][other] = cost
        costs[other][one] = cost
    return costs


def _agreed(web, net):
    """The numbers of the roads that both hands mark tree, rising."""
    marked = [net.knows(hand)[3] for hand in range(web.hands())]
    agreed = []
    for number, (one, other, _) in enumerate(web.roads()):
        if other in marked[one] and one in marked[other]:
            agreed.append(number)
    return agreed
