"""Fractions: pairs of numbers, over and under, in lowest terms."""

from math import gcd

from strangerbench.rightkinds import is_count, is_tuple_of


def is_fraction(thing):
    """Whether it is a number from 0 on over one from 1 on, in lowest terms."""
    if not is_tuple_of(thing, 2) or not is_count(thing[0]) or not is_count(thing[1]):
        return False
    # Of 0 this leaves (0, 1) alone, and nothing over 0 but (1, 0).
    return thing[1] > 0 and gcd(thing[0], thing[1]) == 1


def in_lowest_terms(over, under):
    """The fraction of these two numbers."""
    common = gcd(over, under)
    return (over // common, under // common)


def fraction_sum(fractions):
    """The sum of the fractions, perhaps of none."""
    total = (0, 1)
    for over, under in fractions:
        total = in_lowest_terms(total[0] * under + over * total[1], total[1] * under)
    return total


def is_less(one, other):
    """Whether the one fraction is less than the other."""
    return one[0] * other[1] < other[0] * one[1]
