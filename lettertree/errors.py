"""The refusals of the program."""


class WebError(ValueError):
    """Any refusal."""


class BadWeb(WebError):
    """Hands and roads that are no web: a word that tells why, and a number."""

    def __init__(self, why, number):
        self.why = why
        self.number = number


class NoHand(WebError):
    """A hand that there isn't."""


class NoRoad(WebError):
    """A number that is no road's."""


class NoLetter(WebError):
    """No letter is under way there."""


class BadText(WebError):
    """A text that is no web's: the number of the first row that isn't as it should be."""

    def __init__(self, row):
        self.row = row
