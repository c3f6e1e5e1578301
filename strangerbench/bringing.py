"""Bringing rights together, so that a bench can be seated at one town."""

from strangerbench.benches import benches_of
from strangerbench.handpairs import pairs_of
from strangerbench.holdings import row_of
from strangerbench.townlooks import mine_at


def free_at(tells, town, pair):
    """The free that the town's row of the pair has."""
    told = {teller: rights for teller, rights in tells}
    return row_of(told[town], town, pair)[5]


def where_lies(tells, pair):
    """The least town at which the right is mine, and its free there; None where at none."""
    towns = mine_at(tells, pair)
    if not towns:
        return None
    return (towns[0], free_at(tells, towns[0], pair))


def lying(tells, town, hands):
    """Of each pair that lies somewhere: where, and its free once it is at the town."""
    found = {}
    for pair in pairs_of(hands):
        place = where_lies(tells, pair)
        if place is not None:
            found[pair] = (place[0], max(place[1], free_at(tells, town, pair)))
    return found


def brought(tells, town, hands, *, day, seats):
    """The bench for which the fewest rights are brought to the town, these, and the day."""
    found = lying(tells, town, hands)
    # Who may sit together here are those whose right lies anywhere at all.
    benches = benches_of((hands, tuple(sorted(found)), seats))
    plans = [plan_of(bench, found, town, day) for bench in benches]
    if not plans:
        return None
    _, best_day, bench, rows = min(plans)
    return (bench, rows, best_day)


def plan_of(bench, found, town, day):
    """How many are brought, the day, the bench, and the rows of those brought."""
    pairs = pairs_of(bench)
    rows = [(pair, found[pair][0], found[pair][1]) for pair in pairs if found[pair][0] != town]
    best_day = max([day] + [found[pair][1] for pair in pairs])
    return (len(rows), best_day, bench, tuple(rows))
