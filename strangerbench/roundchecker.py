"""Any thing looked at as a paper of a round: by which way each right goes, and who tells the last of it."""

from strangerbench.errors import NoPaper
from strangerbench.rightkinds import is_pair, is_tuple_of
from strangerbench.roundings import round_paper


def lets_round(town, tells, thing, *, heard):
    """True of the paper of this round, else the first that is wrong is refused."""
    right = round_paper(town, tells, heard=heard)
    if type(thing) is not tuple or not all([is_way(triple) for triple in thing]):
        raise NoPaper("shape", -1)
    if [pair for pair, _, _ in thing] != [pair for pair, _, _ in right]:
        raise NoPaper("pairs", -1)
    for at, (_, way, teller) in enumerate(thing):
        _, right_way, right_teller = right[at]
        if teller != right_teller:
            raise NoPaper("teller", at)
        if way != right_way:
            raise NoPaper("way", at)
    return True


def is_way(thing):
    """Whether it is a pair and two texts."""
    if not is_tuple_of(thing, 3):
        return False
    pair, way, teller = thing
    return is_pair(pair) and type(way) is str and type(teller) is str
