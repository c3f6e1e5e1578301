"""The end of a round: what a town that rose has of each right, by the rights of all."""

from strangerbench.errors import NoTown
from strangerbench.giving import rise_heard
from strangerbench.handpairs import home_of
from strangerbench.holdings import holds, row_of
from strangerbench.townlooks import pairs_told


def rounded(town, tells, *, heard, span):
    """The rights that the town has behind the round."""
    paper = round_paper(town, tells, heard=heard)
    return rounded_by(town, tells, paper, heard=heard, span=span)


def round_paper(town, tells, *, heard):
    """For each pair the way by which it goes, and who tells the row of the greatest stamp."""
    check_among(town, tells)
    return tuple([round_row(town, tells, pair, heard) for pair in pairs_told(tells)])


def check_among(town, tells):
    """Refuses a town that is none of those that tell."""
    if town not in [teller for teller, _ in tells]:
        raise NoTown(town)


def round_row(town, tells, pair, heard):
    """The pair, its way, and its teller."""
    rows = {teller: row_of(rights, teller, pair) for teller, rights in tells}
    greatest = max([row[1] for row in rows.values()])
    teller = min([one for one, row in rows.items() if row[1] == greatest])
    own = rows[town]
    if own[1] == greatest and holds(own, town):
        return (pair, "stays", teller)
    if home_of(pair) == town and is_lost(town, rows, rows[teller], heard):
        return (pair, "again", teller)
    return (pair, "away", teller)


def is_lost(town, rows, last, heard):
    """Whether nobody has the right, nor can take it, by the row of the greatest stamp."""
    _, stamp, place, giver, rise, _, _ = last
    if place not in rows:
        return False
    if place == town:
        return True
    _, known, _, _, _, _, here = rows[place]
    if known == stamp:
        return not here
    # The place never took it, and takes no letter of an elder rise any more.
    return rise_heard(heard, giver) > rise


def rounded_by(town, tells, paper, *, heard, span):
    """The rights behind the round by a paper that is let by."""
    check_among(town, tells)
    turn = sum([rise for _, rise, _ in heard])
    floor = max([day for _, _, day in heard]) + span
    own_rise = rise_heard(heard, town)
    rows = []
    for pair, way, teller in paper:
        last = last_row(tells, pair, teller)
        if way != "away":
            last = mine_by(last, town, own_rise, turn, floor)
        rows.append(last)
    return (turn, floor, tuple(rows))


def last_row(tells, pair, teller):
    """The teller's row, not here, with the greatest free that any tells."""
    rows = {town: row_of(rights, town, pair) for town, rights in tells}
    free = max([row[5] for row in rows.values()])
    _, stamp, place, giver, rise, _, _ = rows[teller]
    return (pair, stamp, place, giver, rise, free, False)


def mine_by(last, town, own_rise, turn, floor):
    """The row of a right that is mine behind the round."""
    pair, stamp, _, _, _, free, _ = last
    number = 0
    if stamp[0] == turn:
        number = stamp[1] + 1
    return (pair, (turn, number), town, town, own_rise, max(free, floor), True)
