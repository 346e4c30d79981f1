"""Nets told as stories: a row for each thing done, and behind it the letters that it brings about.

    wake 0: 0>2 joins 0                            hand 0 wakes, and sends joins with 0 to hand 2
    0>2 joins 0: 2>0 joins 0, 2>0 is 1 3 finds     that letter comes; hand 2 sends two letters
    0>1 asks 1 3:                                  that letter comes, and nothing is sent
    hand 2: True 1 3 [0] [] False                  what knows tells of hand 2
"""

from itertools import permutations

from lettertree.nets import Net


def story(web, mute, text):
    """What a net tells when the rows' first words are done: rows to compare with those handed in."""
    net = Net(web, mute)
    return [retold(net, web.hands(), row) for row in rows_of(text)]


def rows_of(text):
    return [row.strip() for row in text.splitlines() if row.strip()]


def retold(net, hands, row):
    first, second = row.replace(":", " ").split()[:2]
    if first == "hand":
        return f"hand {second}: " + " ".join(str(part) for part in net.knows(int(second)))
    if first == "wake":
        posted = posted_by(net, hands, lambda: net.wake(int(second)))
        return f"wake {second}:{posted}"
    one, other = (int(word) for word in first.split(">"))
    if not net.letters(one, other):
        return f"{first} has no letter"
    letter = said(net.letters(one, other)[0])
    posted = posted_by(net, hands, lambda: net.carry(one, other), first)
    return f"{first} {letter}:{posted}"


def posted_by(net, hands, done, carried=None):
    """The letters that are new on each way; each other letter but the carried one is under way as it was."""
    ahead = all_letters(net, hands)
    if carried is not None:
        ahead[carried] = ahead[carried][1:]
    sent = net.sent()
    done()
    behind = all_letters(net, hands)
    posted = []
    for way, letters in behind.items():
        kept = len(ahead[way])
        assert letters[:kept] == ahead[way], (way, ahead[way], letters)
        posted += [f"{way} {said(letter)}" for letter in letters[kept:]]
    assert net.sent() == sent + len(posted), (sent, net.sent(), posted)
    return " " + ", ".join(posted) if posted else ""


def all_letters(net, hands):
    return {f"{one}>{other}": net.letters(one, other) for one, other in permutations(range(hands), 2)}


def said(letter):
    return " ".join(str(part) for part in letter)
