"""Any thing looked at as a paper that tells two burnings that are too near, or that none are."""

from strangerbench.errors import NoPaper
from strangerbench.matterkinds import is_burning, word_of
from strangerbench.rightkinds import is_count, is_pair, is_tuple_of
from strangerbench.twice import burnt_by_pair, days_of


def lets_twice(rule, burnings, thing):
    """The word of a paper that is right, else the first that is wrong is refused."""
    if not is_paper(thing):
        raise NoPaper("shape", -1)
    if thing[0] == "twice":
        check_twice(rule, burnings, thing[1:])
    else:
        check_apart(rule, burnings, thing[1])
    return thing[0]


def is_paper(thing):
    """Whether it is two things, or a tuple of pairs of things, by kind."""
    word = word_of(thing)
    if word == "twice":
        return is_tuple_of(thing, 3)
    if word != "apart" or not is_tuple_of(thing, 2) or type(thing[1]) is not tuple:
        return False
    return all([is_tuple_of(row, 2) for row in thing[1]])


def check_twice(rule, burnings, both):
    """Refuses what aren't two burnings of one pair that are too near."""
    for at, one in enumerate(both):
        if not is_burning(one) or one not in burnings:
            raise NoPaper("burning", at)
    one, other = both
    if one >= other:
        raise NoPaper("order", -1)
    if one[0] != other[0]:
        raise NoPaper("pair", -1)
    if abs(one[2] - other[2]) >= rule[3]:
        raise NoPaper("apart", -1)


def check_apart(rule, burnings, rows):
    """Refuses rows that aren't all days of all pairs, a span apart."""
    burnt = burnt_by_pair(burnings)
    for at, (pair, days) in enumerate(rows):
        if not is_pair(pair) or pair not in burnt or (at > 0 and pair <= rows[at - 1][0]):
            raise NoPaper("pair", at)
        if not are_days(days) or days != days_of(burnt[pair]):
            raise NoPaper("days", at)
        for place in range(1, len(days)):
            if days[place] - days[place - 1] < rule[3]:
                raise NoPaper("near", (at, place))
    told = {pair: True for pair, _ in rows}
    for at, pair in enumerate(sorted(burnt)):
        if pair not in told:
            raise NoPaper("few", at)


def are_days(thing):
    """Whether it is a tuple of days."""
    return type(thing) is tuple and all([is_count(day) for day in thing])
