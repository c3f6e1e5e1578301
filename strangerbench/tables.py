"""The table of who has a voice for which root, and whether burnings pay it."""

from strangerbench.handpairs import pairs_of
from strangerbench.paths import path_voices, root_of


def table_of(matters):
    """Of each matter its root and the voices of its path, like ones once: a rising tuple."""
    rows = [(root_of(matters, matter[0]), path_voices(matters, matter[0])) for matter in matters]
    return tuple(sorted(set(rows)))


def lacking(table, burnings):
    """The first root of the table, with the first pair of its hands, that no burning pays; None where all are paid."""
    paid = {(pair, root): True for pair, root, _ in burnings}
    for root, hands in table:
        for pair in pairs_of(hands):
            if (pair, root) not in paid:
                return (root, pair)
    return None
