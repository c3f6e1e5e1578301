"""Giving a right to another town, and taking what a letter brings."""

from strangerbench.errors import NoRight
from strangerbench.holdings import holds, row_of, with_rows


def given_to(rights, town, pair, to, *, rise):
    """The rights behind giving the pair's right to another town, and the letter."""
    row = row_of(rights, town, pair)
    _, stamp, place, _, _, free, _ = row
    if not holds(row, town):
        raise NoRight(pair, place)
    turn, number = stamp
    sent = (pair, (turn, number + 1), to, town, rise, free, False)
    return (with_rows(rights, [sent]), ("give", town, to, sent))


def letter_of(rights, town, pair):
    """The letter that may be sent again, as long as the row is as giving left it."""
    row = row_of(rights, town, pair)
    _, _, place, giver, _, _, _ = row
    if giver != town or place == town:
        raise NoRight(pair, place)
    return ("give", town, place, row)


def rise_heard(heard, town):
    """How often the town rose, as heard; 0 of one of which nothing was heard."""
    for told, rise, _ in heard:
        if told == town:
            return rise
    return 0


def taken(rights, town, letter, *, heard):
    """The rights behind the coming of the letter, be it taken or not."""
    _, sender, to, row = letter
    pair, stamp, place, giver, rise, free, _ = row
    if to != town or place != town or sender != giver:
        return rights
    _, known, _, _, _, known_free, _ = row_of(rights, town, pair)
    if stamp <= known or rise < rise_heard(heard, giver):
        return rights
    return with_rows(rights, [(pair, stamp, town, giver, rise, max(free, known_free), True)])
