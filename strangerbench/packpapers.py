"""The most benches that are apart, with the parts that show that there are no more."""

from strangerbench.benches import MOST
from strangerbench.fractions import fraction_sum, in_lowest_terms, is_less
from strangerbench.handpairs import pairs_of
from strangerbench.packing import apart_from, benches_up_to, best_packing


def pack_paper(call, *, most=MOST):
    """A packing with the most benches, and the parts for it."""
    benches = benches_up_to(call, most)
    packing = best_packing(benches)
    return (packing, parts_for(benches, len(packing)))


def parts_for(benches, many):
    """The parts that show that no more than so many of these benches are apart."""
    # Of each part the benches left and how many were taken; a split puts both that it names at the end.
    asked = [(benches, 0)]
    parts = []
    while len(parts) < len(asked):
        left, taken = asked[len(parts)]
        rows = lightest(left)
        if is_less(fraction_sum(tuple([weight for _, weight in rows])), (many + 1 - taken, 1)):
            parts.append(("weights", rows))
        else:
            bench = most_met(left)
            parts.append(("split", bench, len(asked), len(asked) + 1))
            asked.extend([(apart_from(bench, left), taken + 1), (but_for(bench, left), taken)])
    return tuple(parts)


def most_met(benches):
    """The first of the benches that has pairs in common with the most others."""
    return min(benches, key=lambda bench: len(apart_from(bench, benches)))


def but_for(bench, benches):
    """All of the benches but this one."""
    return tuple([other for other in benches if other != bench])


def lightest(benches):
    """Rows of pairs and weights: of each bench 1 or more, and all of them together the least that can be.

    It is found by the simplex way, from the other side: shares of the benches, as many as can be, of each pair no
    more than 1 in all. The table has a row for each pair, a column for each bench, and behind both the bounds and
    what all comes to. Row by row and column by column what they stand for changes places until nothing more is won.
    All numbers of the table are whole; each stands for itself over the scale.
    """
    pairs = sorted(set([pair for bench in benches for pair in pairs_of(bench)]))
    table = first_table(benches, pairs)
    # What columns and rows stand for: a number below that of the benches is a bench, each other one a pair.
    above = list(range(len(benches)))
    beside = list(range(len(benches), len(benches) + len(pairs)))
    scale = 1
    column = column_to_turn(table, above)
    while column is not None:
        row = row_to_turn(table, beside, column)
        pivot = table[row][column]
        table = turned(table, row, column, scale)
        scale = pivot
        beside[row], above[column] = above[column], beside[row]
        column = column_to_turn(table, above)
    won = [(number - len(benches), table[-1][at]) for at, number in enumerate(above)]
    return tuple([(pairs[at], in_lowest_terms(over, scale)) for at, over in sorted(won) if at >= 0 and over > 0])


def first_table(benches, pairs):
    """The table in which no bench has a share."""
    met = [{pair: True for pair in pairs_of(bench)} for bench in benches]
    rows = [[int(pair in there) for there in met] + [1] for pair in pairs]
    return rows + [[-1 for _ in benches] + [0]]


def column_to_turn(table, above):
    """The column by which more can be won that stands for the least number; None where there is none."""
    # The least number goes first, here and with the rows, since otherwise it might go round for ever.
    columns = [(number, at) for at, number in enumerate(above) if table[-1][at] < 0]
    if not columns:
        return None
    return min(columns)[1]


def row_to_turn(table, beside, column):
    """The row that bounds the column the most; of like ones that which stands for the least number."""
    best = None
    for _, at in sorted([(number, at) for at, number in enumerate(beside)]):
        row = table[at]
        if row[column] > 0 and (best is None or row[-1] * best[0] < best[1] * row[column]):
            best = (row[column], row[-1], at)
    return best[2]


def turned(table, row, column, scale):
    """The table in which what this row and this column stand for have changed places."""
    by = table[row]
    pivot = by[column]
    changed = []
    for at, line in enumerate(table):
        if at == row:
            own = list(line)
            own[column] = scale
        else:
            # This leaves no rest: each number is a sum of products of the first table's.
            own = [(one * pivot - line[column] * other) // scale for one, other in zip(line, by)]
            own[column] = -line[column]
        changed.append(own)
    return changed
