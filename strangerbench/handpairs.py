"""Pairs of hands, and where their rights are at home."""


def pairs_of(hands):
    """All pairs of unlike hands, in whatever order these come: a rising tuple."""
    rising = sorted(hands)
    return tuple([(one, other) for at, one in enumerate(rising) for other in rising[at + 1:]])


def home_of(pair):
    """The town in which the right of the pair is from the beginning."""
    _, greater = pair
    return greater[0]


def both_ways(pairs):
    """The pairs, each in both orders of its hands: a dict of truths."""
    together = {}
    for one, other in pairs:
        together[(one, other)] = True
        together[(other, one)] = True
    return together
