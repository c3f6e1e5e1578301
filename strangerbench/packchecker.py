"""Any thing looked at as a packing of a call with parts that show that there is no greater one."""

from strangerbench.benches import MOST
from strangerbench.errors import NoPaper
from strangerbench.fractions import fraction_sum, is_fraction, is_less
from strangerbench.handpairs import pairs_of
from strangerbench.matterkinds import word_of
from strangerbench.nonechecker import check_named, is_split
from strangerbench.packing import apart_from, benches_up_to
from strangerbench.packpapers import but_for
from strangerbench.rightkinds import is_pair, is_tuple_of, rises


def lets_packing(call, thing, *, most=MOST):
    """How many benches the packing of a right paper has, else the first that is wrong is refused."""
    benches = benches_up_to(call, most)
    if not is_paper(thing):
        raise NoPaper("shape", -1)
    packing, parts = thing
    check_packing(benches, packing)
    check_named(parts)
    check_parts(benches, len(packing), parts)
    return len(packing)


def is_paper(thing):
    """Whether it is a tuple of whatever and a tuple of parts, one at least, by kind."""
    if not is_tuple_of(thing, 2) or type(thing[0]) is not tuple or type(thing[1]) is not tuple:
        return False
    return len(thing[1]) > 0 and all([is_part(part) for part in thing[1]])


def is_part(thing):
    """Whether it is weights or a split by kind."""
    if word_of(thing) == "weights":
        return len(thing) == 2 and type(thing[1]) is tuple and all([is_weight(row) for row in thing[1]])
    return is_split(thing) and type(thing[1]) is tuple


def is_weight(thing):
    """Whether it is a pair and a fraction."""
    return is_tuple_of(thing, 2) and is_pair(thing[0]) and is_fraction(thing[1])


def check_packing(benches, packing):
    """Refuses the first thing that is no bench, isn't above the one ahead, or has a pair in common with one ahead."""
    apart = benches
    for at, bench in enumerate(packing):
        if bench not in benches:
            raise NoPaper("bench", at)
        if at > 0 and bench <= packing[at - 1]:
            raise NoPaper("rise", at)
        if bench not in apart:
            raise NoPaper("pair", at)
        apart = apart_from(bench, apart)


def check_parts(benches, many, parts):
    """Refuses the first part that doesn't show that no more than so many are apart."""
    asked = {0: (benches, 0)}
    for at, part in enumerate(parts):
        left, taken = asked[at]
        if part[0] == "weights":
            check_weights(at, part[1], left, many + 1 - taken)
        else:
            _, bench, takes, leaves = part
            if bench not in left:
                raise NoPaper("bench", at)
            asked[takes] = (apart_from(bench, left), taken + 1)
            asked[leaves] = (but_for(bench, left), taken)


def check_weights(at, rows, left, bound):
    """Refuses weights that are too light for a bench that is left, or as heavy as the bound."""
    if not rises([pair for pair, _ in rows]):
        raise NoPaper("rise", at)
    weights = {pair: weight for pair, weight in rows}
    for bench in left:
        own = tuple([weights[pair] for pair in pairs_of(bench) if pair in weights])
        if is_less(fraction_sum(own), (1, 1)):
            raise NoPaper("light", at)
    if not is_less(fraction_sum(tuple([weight for _, weight in rows])), (bound, 1)):
        raise NoPaper("heavy", at)
