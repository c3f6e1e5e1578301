"""A bench of a call, or the parts that show that there is none."""

from strangerbench.benches import goes_with
from strangerbench.handpairs import both_ways


def seat_or_none(call):
    """A paper with a bench, where there is one, else one with parts."""
    bench = some_bench(call)
    if bench is not None:
        return ("seat", bench)
    return ("none", none_parts(call))


def some_bench(call):
    """A bench of the call; None where it has none."""
    hands, free, seats = call
    together = {pair: True for pair in free}
    begun = [()]
    while begun:
        bench = begun.pop()
        if len(bench) == seats:
            return bench
        begun.extend([bench + (hand,) for hand in hands if goes_with(bench, hand, together)])
    return None


def none_parts(call):
    """The parts for a call that has no bench."""
    hands, free, seats = call
    together = both_ways(free)
    # Of each part the hands left and how many it needs; a split puts both that it names at the end.
    asked = [(hands, seats)]
    parts = []
    while len(parts) < len(asked):
        left, needs = asked[len(parts)]
        lots = lots_of(left, together)
        if len(left) < needs:
            parts.append(("few",))
        elif len(lots) < needs:
            parts.append(("cover", lots))
        else:
            hand = busiest(left, together)
            parts.append(("split", hand, len(asked), len(asked) + 1))
            asked.extend([(beside(left, hand, together), needs - 1), (without(left, hand), needs)])
    return tuple(parts)


def lots_of(left, together):
    """All these hands in lots, no two of which are together in one: each hand in the first that takes it."""
    lots = []
    for hand in left:
        fits = [at for at, lot in enumerate(lots) if not any([(hand, one) in together for one in lot])]
        if fits:
            lots[fits[0]] += (hand,)
        else:
            lots.append((hand,))
    return tuple(lots)


def busiest(left, together):
    """The first of the hands that goes with the most others."""
    return max(left, key=lambda hand: len(beside(left, hand, together)))


def beside(left, hand, together):
    """Those of the hands that go with this one."""
    return tuple([one for one in left if (hand, one) in together])


def without(left, hand):
    """All of the hands but this one."""
    return tuple([one for one in left if one != hand])
