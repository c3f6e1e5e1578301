"""What one town knows of a right, whether it is its own, and burning it."""

from strangerbench.errors import NoRight
from strangerbench.handpairs import home_of


def row_of(rights, town, pair):
    """The row that the rights of this town have of the pair."""
    turn, floor, rows = rights
    for row in rows:
        if row[0] == pair:
            return row
    home = home_of(pair)
    if town == home:
        return (pair, (turn, 0), home, home, 0, floor, True)
    return (pair, (0, 0), home, home, 0, 0, False)


def holds(row, town):
    """Whether by this row of its own the right lies at the town."""
    _, _, place, _, _, _, here = row
    return place == town and here


def is_mine(rights, town, pair):
    """Whether the right of the pair lies at the town of these rights."""
    return holds(row_of(rights, town, pair), town)


def burn_bars(rights, town, pair, *, day):
    """What bars burning: the place where it isn't here, a later free, or None."""
    row = row_of(rights, town, pair)
    _, _, place, _, _, free, _ = row
    if not holds(row, town):
        return place
    if free > day:
        return free
    return None


def with_rows(rights, changed):
    """The rights with these rows, each in the stead of the one of its pair."""
    turn, floor, rows = rights
    known = {row[0]: row for row in rows}
    for row in changed:
        known[row[0]] = row
    return (turn, floor, tuple([known[pair] for pair in sorted(known)]))


def freed_on(row, free):
    """The row with another free."""
    pair, stamp, place, giver, rise, _, here = row
    return (pair, stamp, place, giver, rise, free, here)


def burnt(rights, town, pairs, *, day, span):
    """The rights in which all these pairs are burnt on the day."""
    for pair in pairs:
        why = burn_bars(rights, town, pair, day=day)
        if why is not None:
            raise NoRight(pair, why)
    return with_rows(rights, [freed_on(row_of(rights, town, pair), day + span) for pair in pairs])
