import fractions
import random
import unittest

from samples import ANY_THINGS, all_tuples, check_look
from strangerbench.fractions import fraction_sum, is_fraction, is_less


class TestIsFraction(unittest.TestCase):
    def test_fractions(self):
        for thing in ((0, 1), (1, 1), (1, 3), (2, 3), (7, 1), (8, 3), (10 ** 70 + 1, 10 ** 70)):
            check_look(self, is_fraction, thing, True)

    def test_not_in_lowest_terms(self):
        for thing in ((2, 4), (3, 3), (0, 2), (0, 3), (6, 3), (10 ** 60, 10 ** 59)):
            check_look(self, is_fraction, thing, False)

    def test_below_0_and_over_0(self):
        for thing in ((-1, 3), (1, -3), (-1, -3), (0, -1), (1, 0), (0, 0), (2, 0), (-1, 1)):
            check_look(self, is_fraction, thing, False)

    def test_truths_and_other_things(self):
        for thing in ((True, 1), (1, True), (False, 1), (True, True), [1, 3], (1,), (1, 3, 1), ("1", 3), (1, None),
                      ((1,), 3), 1):
            check_look(self, is_fraction, thing, False)
        for thing in ANY_THINGS:
            check_look(self, is_fraction, thing, False)


class TestSum(unittest.TestCase):
    def test_sums(self):
        self.assertEqual(fraction_sum(()), (0, 1))
        self.assertEqual(fraction_sum(((2, 3),)), (2, 3))
        self.assertEqual(fraction_sum(((1, 3), (1, 3), (1, 3))), (1, 1))
        self.assertEqual(fraction_sum(((1, 2), (1, 3))), (5, 6))
        self.assertEqual(fraction_sum(((1, 6), (1, 3))), (1, 2))
        self.assertEqual(fraction_sum(fractions=((0, 1), (0, 1))), (0, 1))
        self.assertEqual(fraction_sum(((1, 3),) * 21), (7, 1))
        self.assertIs(all_tuples(fraction_sum(((1, 2),))), True)

    def test_against_the_library(self):
        chance = random.Random(64)
        for _ in range(200):
            some = [fractions.Fraction(chance.randrange(30), chance.randrange(1, 30)) for _ in range(5)]
            told = fraction_sum(tuple([(one.numerator, one.denominator) for one in some]))
            self.assertEqual(told, (sum(some).numerator, sum(some).denominator))
            self.assertIs(is_fraction(told), True)
            pair = [(one.numerator, one.denominator) for one in some[:2]]
            self.assertIs(is_less(*pair), some[0] < some[1])


class TestLess(unittest.TestCase):
    def test_less(self):
        for one, other in (((0, 1), (1, 99)), ((1, 3), (1, 2)), ((2, 3), (3, 4)), ((9, 1), (10, 1)),
                           ((10 ** 60, 10 ** 60 + 1), (1, 1))):
            self.assertIs(is_less(one, other), True)
            self.assertIs(is_less(other, one), False)
            self.assertIs(is_less(one=one, other=other), True)

    def test_like_ones(self):
        for one in ((0, 1), (1, 3), (7, 1)):
            self.assertIs(is_less(one, one), False)


if __name__ == "__main__":
    unittest.main()
