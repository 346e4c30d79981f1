"""Webs for the tests, and what the tests work out by themselves to compare with."""

from itertools import combinations, permutations

# Numbers, costs and places on the web are in different orders on purpose.
CROSSED = (5, [(2, 4, 6), (0, 4, 8), (1, 2, 3), (0, 1, 20), (3, 4, 1), (0, 2, 15), (1, 3, 7)])


def costs(many, step):
    """So many unlike costs from 1 to 96, in an order that the step (1 to 96) makes."""
    return [(number + 1) * step % 97 for number in range(many)]


def full_roads(hands, many, step):
    """A chain through all hands turned into roads, then other pairs, until there are so many."""
    chain = [(hand, hand + 1) for hand in range(hands - 1)]
    others = [pair for pair in combinations(range(hands), 2) if pair not in chain]
    pairs = (others[: many - len(chain)] + chain)[:many]
    turned = pairs[step % many:] + pairs[: step % many]
    return [(one, other, cost) for (one, other), cost in zip(turned, costs(many, step))]


def reached(hand, roads):
    """The hands to which the roads lead from a hand, itself among them: a set."""
    found = {hand}
    while True:
        more = {end for one, other, _ in roads if one in found or other in found for end in (one, other)}
        if more <= found:
            return found
        found |= more


def leads_everywhere(hands, roads):
    return len(reached(0, roads)) == hands


def small_webs(most):
    """All webs of so many hands at most, with the costs 1, 2, .. dealt out in every way."""
    for hands in range(1, most + 1):
        pairs = list(combinations(range(hands), 2))
        for many in range(len(pairs) + 1):
            for chosen in combinations(pairs, many):
                if not leads_everywhere(hands, [pair + (0,) for pair in chosen]):
                    continue
                for dealt in permutations(range(1, many + 1)):
                    yield hands, [pair + (cost,) for pair, cost in zip(chosen, dealt)]


def large_webs():
    """Webs of five to eight hands with up to twenty roads."""
    for hands in range(5, 9):
        most = min(20, hands * (hands - 1) // 2)
        for many in range(hands - 1, most + 1):
            for step in (1, 5, 23, 58, 96):
                yield hands, full_roads(hands, many, step)


def least_by_trying(hands, roads, sizes):
    """The least set of roads that leads everywhere, all sets of these sizes tried: rising numbers."""
    found = []
    for size in sizes:
        for numbers in combinations(range(len(roads)), size):
            tried = [roads[number] for number in numbers]
            if leads_everywhere(hands, tried):
                found.append((sum(cost for _, _, cost in tried), list(numbers)))
    found.sort()
    assert len(found) == 1 or found[0][0] < found[1][0]
    return found[0][1]
