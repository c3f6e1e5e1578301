"""Any thing looked at as a paper with a bench of a call, or with parts that show that there is none."""

from strangerbench.errors import NoPaper
from strangerbench.handpairs import both_ways, pairs_of
from strangerbench.matterkinds import word_of
from strangerbench.nonepapers import beside, without
from strangerbench.rightkinds import is_hand, is_tuple_of


def lets_seating(call, thing):
    """The word of a paper that is right, else the first that is wrong is refused."""
    if not is_paper(thing):
        raise NoPaper("shape", -1)
    word, told = thing
    if word == "seat":
        check_bench(call, told)
    else:
        check_named(told)
        check_parts(call, told)
    return word


def is_paper(thing):
    """Whether it is a bench or parts by kind."""
    if not is_tuple_of(thing, 2) or type(thing[1]) is not tuple:
        return False
    word = word_of(thing)
    if word == "seat":
        return all([is_hand(one) for one in thing[1]])
    return word == "none" and len(thing[1]) > 0 and all([is_part(part) for part in thing[1]])


def is_part(thing):
    """Whether it is few, a cover or a split by kind."""
    word = word_of(thing)
    if word == "few":
        return len(thing) == 1
    if word == "cover":
        return len(thing) == 2 and are_lots(thing[1])
    return is_split(thing) and is_hand(thing[1])


def are_lots(thing):
    """Whether it is a tuple of tuples of hands."""
    if type(thing) is not tuple or not all([type(lot) is tuple for lot in thing]):
        return False
    return all([is_hand(hand) for lot in thing for hand in lot])


def is_split(thing):
    """Whether it splits by some thing into parts of two numbers."""
    return word_of(thing) == "split" and len(thing) == 4 and all([type(part) is int for part in thing[2:]])


def check_bench(call, bench):
    """Refuses hands that are no bench of the call."""
    hands, free, seats = call
    if len(bench) != seats:
        raise NoPaper("many", -1)
    for at, hand in enumerate(bench):
        if hand not in hands or (at > 0 and hand <= bench[at - 1]):
            raise NoPaper("hand", at)
    for at, one in enumerate(bench):
        for behind in range(at + 1, seats):
            if (one, bench[behind]) not in free:
                raise NoPaper("pair", (at, behind))


def check_named(parts):
    """Refuses the first part that isn't named just once and ahead, or that names others otherwise."""
    named = {0: True}
    for at, part in enumerate(parts):
        if at not in named:
            raise NoPaper("part", at)
        if word_of(part) == "split":
            for other in part[2:]:
                if not at < other < len(parts) or other in named:
                    raise NoPaper("part", at)
                named[other] = True


def check_parts(call, parts):
    """Refuses the first part that doesn't show that too few of the hands left can sit."""
    hands, free, seats = call
    together = both_ways(free)
    asked = {0: (hands, seats)}
    for at, part in enumerate(parts):
        left, needs = asked[at]
        word = part[0]
        if word == "few":
            if len(left) >= needs:
                raise NoPaper("few", at)
        elif word == "cover":
            check_cover(at, part[1], left, needs, together)
        else:
            _, hand, sits, stays_out = part
            if hand not in left:
                raise NoPaper("hand", at)
            asked[sits] = (beside(left, hand, together), needs - 1)
            asked[stays_out] = (without(left, hand), needs)


def check_cover(at, lots, left, needs, together):
    """Refuses lots that are too many, or of each of which more than one might sit."""
    if len(lots) >= needs:
        raise NoPaper("many", at)
    covered = {hand: True for lot in lots for hand in lot}
    there = {hand: True for hand in left}
    if not all([hand in there for hand in covered]):
        raise NoPaper("hand", at)
    if not all([hand in covered for hand in left]):
        raise NoPaper("left", at)
    for lot in lots:
        # A hand may stand twice in a lot, and is no pair with itself.
        if any([pair in together for pair in pairs_of(sorted(set(lot)))]):
            raise NoPaper("pair", at)
