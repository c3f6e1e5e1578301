"""Looks over the rights of several towns: where a right is mine."""

from strangerbench.holdings import is_mine


def mine_at(tells, pair):
    """The towns at which the right of the pair is mine: a rising tuple."""
    return tuple([town for town, rights in tells if is_mine(rights, town, pair)])


def pairs_told(tells):
    """The pairs that have a row in some of the rights: a rising tuple."""
    told = {row[0]: True for _, rights in tells for row in rights[2]}
    return tuple(sorted(told))


def held_twice(tells, *, wary=()):
    """The pairs that are mine at two towns or more that aren't wary, with these towns."""
    sure = [(town, rights) for town, rights in tells if town not in wary]
    held = [(pair, mine_at(sure, pair)) for pair in pairs_told(tells)]
    return tuple([(pair, towns) for pair, towns in held if len(towns) > 1])
