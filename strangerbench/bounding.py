"""The bound of what so many hands sway, and those who sway the most."""

from itertools import combinations
from math import comb

from strangerbench.errors import NoMore
from strangerbench.sway import days_behind, held_by, most_behind


def bound_of(rule, many):
    """How many roots so many hands sway at most."""
    _, _, needed, _ = rule
    return many * (many - 1) // (needed * (needed - 1))


def greatest(rule, table, burnings, many, *, most=1000):
    """The most roots, the least so many hands of the table that sway them, and the day."""
    known = {hand: True for _, hands in table for hand in hands}
    asked = min(many, len(known))
    if comb(len(known), asked) > most:
        raise NoMore(most)
    return greatest_among(rule, table, burnings, sorted(known), asked)


def greatest_among(rule, table, burnings, hands, asked):
    """The best of all so many of these hands; of like ones the least, which comes first."""
    behind = days_behind(burnings, rule[3])
    best = None
    for chosen in combinations(hands, asked):
        swayed_most, day = most_behind(behind, held_by(rule, table, chosen))
        if best is None or swayed_most > best[0]:
            best = (swayed_most, chosen, day)
    return best
