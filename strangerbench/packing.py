"""The most benches of a call no two of which have a pair in common."""

from strangerbench.benches import MOST, benches_of
from strangerbench.errors import NoMore
from strangerbench.handpairs import both_ways, pairs_of


def packing_of(call, *, most=MOST):
    """A packing with the most benches; refused where the call has more benches than may be looked at."""
    return best_packing(benches_up_to(call, most))


def benches_up_to(call, most):
    """All benches of the call, where they are no more than may be looked at."""
    benches = benches_of(call)
    if len(benches) > most:
        raise NoMore(most)
    return benches


def best_packing(benches):
    """The most of these benches that are apart from one another: a rising tuple."""
    best = ()
    waiting = [((), benches)]
    while waiting:
        taken, left = waiting.pop()
        if len(taken) > len(best):
            best = taken
        if len(taken) + room_for(left) > len(best):
            bench = left[0]
            waiting.append((taken, left[1:]))
            # What was put last is looked at next: where many are taken early, the rest is soon not worth a look.
            waiting.append((taken + (bench,), apart_from(bench, left)))
    return best


def apart_from(bench, benches):
    """Those of the benches that have no pair in common with this one."""
    sitters = {hand: True for hand in bench}
    return tuple([other for other in benches if len([hand for hand in other if hand in sitters]) < 2])


def room_for(benches):
    """How many of these benches are apart at most."""
    partners = {}
    for one, _ in both_ways([pair for bench in benches for pair in pairs_of(bench)]):
        partners[one] = partners.get(one, 0) + 1
    if not partners:
        return 0
    # Benches that are apart share no partner of a hand: each takes of each of its hands as many as it has others.
    seats = len(benches[0])
    return sum([many // (seats - 1) for many in partners.values()]) // seats
