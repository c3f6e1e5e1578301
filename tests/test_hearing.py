import unittest

from samples import all_tuples
from strangerbench.hearing import heard_together
from strangerbench.rightkinds import is_heard

ONE = (("ash", 2, 4), ("elm", 0, 0), ("oak", 3, 9))
OTHER = (("ash", 1, 30), ("elm", 1, 2), ("oak", 3, 8))
BOTH = (("ash", 2, 4), ("elm", 1, 2), ("oak", 3, 9))


class TestHeardTogether(unittest.TestCase):
    def test_of_each_town_the_greater_rise_with_its_day(self):
        told = heard_together(ONE, OTHER)
        self.assertEqual(told, BOTH)
        self.assertEqual(heard_together(OTHER, ONE), BOTH)
        self.assertEqual(heard_together(one=ONE, other=OTHER), BOTH)
        self.assertIs(is_heard(told), True)
        self.assertIs(all_tuples(told), True)

    def test_of_like_rises_the_greater_day(self):
        for one, other in ((4, 9), (9, 4)):
            self.assertEqual(heard_together((("elm", 2, one),), (("elm", 2, other),)), (("elm", 2, 9),))
        # The day of the lesser rise is nothing, however great it is.
        self.assertEqual(heard_together((("elm", 2, 4),), (("elm", 1, 99),)), (("elm", 2, 4),))
        self.assertEqual(heard_together((("elm", 0, 99),), (("elm", 1, 0),)), (("elm", 1, 0),))

    def test_with_itself_and_with_both(self):
        for heard in (ONE, OTHER, BOTH, (("elm", 0, 0),)):
            self.assertEqual(heard_together(heard, heard), heard)
        self.assertEqual(heard_together(ONE, BOTH), BOTH)
        self.assertEqual(heard_together(BOTH, OTHER), BOTH)

    def test_numbers_are_compared(self):
        self.assertEqual(heard_together((("elm", 9, 0),), (("elm", 10, 0),)), (("elm", 10, 0),))
        self.assertEqual(heard_together((("elm", 1, 9),), (("elm", 1, 10 ** 60),)), (("elm", 1, 10 ** 60),))


if __name__ == "__main__":
    unittest.main()
