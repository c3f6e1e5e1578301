"""The refusals: what each is made of, and the two bases that they stand under."""


class BenchError(ValueError):
    """The base of refusals of what doesn't hold, or can't be done."""


class LackError(LookupError):
    """The base of refusals of what isn't there."""


class NoPaper(BenchError):
    """A thing isn't let by as a paper, or as a book."""

    def __init__(self, word, at):
        self.word = word
        self.at = at


class NoRight(BenchError):
    """The right of a pair can't be used."""

    def __init__(self, pair, why):
        self.pair = pair
        self.why = why


class NoMatter(BenchError):
    """A matter isn't as the deed needs it."""

    def __init__(self, word):
        self.word = word


class NoDeed(BenchError):
    """A deed can't be done at this time."""

    def __init__(self, word):
        self.word = word


class NoText(BenchError):
    """A text writes nothing."""

    def __init__(self, line, word):
        self.line = line
        self.word = word


class NoMore(BenchError):
    """There are more than may be looked at."""

    def __init__(self, most):
        self.most = most


class NoRow(BenchError):
    """A row isn't one that the desk knows."""

    def __init__(self, row):
        self.row = row


class NoTown(LackError):
    """There is no such town."""

    def __init__(self, name):
        self.name = name


class NoHand(LackError):
    """There is no such hand."""

    def __init__(self, hand):
        self.hand = hand


class NoName(LackError):
    """No matter is called so."""

    def __init__(self, name):
        self.name = name


class NoStep(LackError):
    """Nothing has this number."""

    def __init__(self, number):
        self.number = number
