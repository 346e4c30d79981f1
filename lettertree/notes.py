"""Webs written as texts, and read from them."""

from lettertree.errors import BadText
from lettertree.webs import Web

LONGEST_NUMBER = 3


def written(web):
    """The web as a text: a row for its hands, then one for each road."""
    rows = [f"hands {web.hands()}"]
    for one, other, cost in web.roads():
        rows.append(f"road {one} {other} {cost}")
    return "\n".join(rows)


def read(text):
    """The web that a text tells; BadText for the first row that isn't as it should be."""
    rows = [row.split(" ") for row in text.split("\n")]
    for number, words in enumerate(rows):
        if not _is_good(words, number == 0):
            raise BadText(number)
    roads = [(int(one), int(other), int(cost)) for _, one, other, cost in rows[1:]]
    return Web(int(rows[0][1]), roads)


def _is_good(words, is_first):
    """Whether a row is so by its words: the first one tells the hands, each other one a road."""
    word, many = ("hands", 1) if is_first else ("road", 3)
    numbers = words[1:]
    return words[0] == word and len(numbers) == many and all([_is_number(number) for number in numbers])


def _is_number(word):
    """Whether a word is one to three figures without a needless 0."""
    if not (word.isascii() and word.isdigit()):
        return False
    return len(word) <= LONGEST_NUMBER and (word == "0" or word[0] != "0")
