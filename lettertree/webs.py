"""Webs of hands and roads, the least tree of a web, and why it is the least one."""

from lettertree.errors import BadWeb, NoRoad

MOST_HANDS = 8
MOST_ROADS = 20
MOST_COST = 99


class Web:
    """Hands, numbered from 0, and the roads between them; it never changes."""

    def __init__(self, hands, roads):
        kept = list(roads)
        _check_web(hands, kept)
        self._hands = hands
        self._roads = kept

    def hands(self):
        """How many hands there are."""
        return self._hands

    def roads(self):
        """The roads, tuples (one, other, cost), in the order of their numbers."""
        return list(self._roads)


def tree(web):
    """The numbers of the least tree's roads, rising."""
    roads = web.roads()
    pieces = list(range(web.hands()))
    chosen = []
    for number in sorted(range(len(roads)), key=lambda at: roads[at][2]):
        one, other, _ = roads[number]
        kept, joined = pieces[one], pieces[other]
        if kept != joined:
            chosen.append(number)
            pieces = [kept if piece == joined else piece for piece in pieces]
    return sorted(chosen)


def instead(web, number):
    """The tree's roads from the one hand of a road to the other, in turn; None for a road of the tree."""
    _check_road(web, number)
    chosen = tree(web)
    if number in chosen:
        return None
    roads = web.roads()
    one, other, _ = roads[number]
    return _paths(roads, chosen, one)[other]


def side(web, number):
    """The hands on the one hand's side of a road of the tree, rising; None for another road."""
    _check_road(web, number)
    chosen = tree(web)
    if number not in chosen:
        return None
    roads = web.roads()
    rest = [at for at in chosen if at != number]
    return sorted(_paths(roads, rest, roads[number][0]))


def _check_web(hands, roads):
    """Refuse what is no web, by the first word that fits."""
    if not 1 <= hands <= MOST_HANDS:
        raise BadWeb("hands", 0)
    if len(roads) > MOST_ROADS:
        raise BadWeb("roads", 0)
    for number, road in enumerate(roads):
        if _is_bad(hands, road, roads[:number]):
            raise BadWeb("road", number)
    if len(_paths(roads, list(range(len(roads))), 0)) < hands:
        raise BadWeb("apart", 0)


def _is_bad(hands, road, ahead):
    """Whether a road is bad, by itself or beside those ahead of it."""
    one, other, cost = road
    if not 0 <= one < other < hands:
        return True
    if not 1 <= cost <= MOST_COST:
        return True
    for near, far, price in ahead:
        if (near, far) == (one, other) or price == cost:
            return True
    return False


def _check_road(web, number):
    # A number below 0 has to be refused here: as an index it would count from the end.
    if not 0 <= number < len(web.roads()):
        raise NoRoad(f"there is no road {number}")


def _paths(roads, numbers, start):
    """For each hand to which the numbered roads lead from start: the numbers of one way there, in turn."""
    paths = {start: []}
    waiting = [start]
    while waiting:
        here = waiting.pop()
        for number in numbers:
            there = _across(roads[number], here)
            if there is not None and there not in paths:
                paths[there] = paths[here] + [number]
                waiting.append(there)
    return paths


def _across(road, hand):
    """The hand at the other end of a road, None if the road isn't this hand's."""
    one, other, _ = road
    if hand == one:
        return other
    if hand == other:
        return one
    return None
