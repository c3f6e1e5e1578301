"""Calls, which tell who may sit with whom, and all the benches that can be."""

from strangerbench.handpairs import pairs_of
from strangerbench.holdings import burn_bars
from strangerbench.rightkinds import are_hands, is_pair, is_tuple_of, rises

MOST = 35


def is_call(thing):
    """Whether it is hands, pairs of these that are free, and 2 to 5 seats."""
    if not is_tuple_of(thing, 3):
        return False
    hands, free, seats = thing
    if not (are_hands(hands) and type(seats) is int and 2 <= seats <= 5):
        return False
    if type(free) is not tuple or not all([is_pair(pair) for pair in free]):
        return False
    there = {hand: True for hand in hands}
    return rises(free) and all([one in there and other in there for one, other in free])


def benches_of(call):
    """All benches of the call: a rising tuple."""
    hands, free, seats = call
    together = {pair: True for pair in free}
    begun = [()]
    for _ in range(seats):
        begun = [bench + (hand,) for bench in begun for hand in hands if goes_with(bench, hand, together)]
    return tuple(begun)


def goes_with(bench, hand, together):
    """Whether the hand may sit behind the last of the bench, with each of it."""
    # Only pairs with the lesser hand first are in there, so a bench rises.
    return all([(sitter, hand) in together for sitter in bench])


def unfree(call, hands):
    """The pairs of these hands that the call hasn't free, as they rise."""
    _, free, _ = call
    together = {pair: True for pair in free}
    return tuple([pair for pair in pairs_of(hands) if pair not in together])


def call_at(rights, town, hands, *, day, seats):
    """The call of these hands, with the pairs free that could be burnt there on the day."""
    free = [pair for pair in pairs_of(hands) if burn_bars(rights, town, pair, day=day) is None]
    return (hands, tuple(free), seats)
