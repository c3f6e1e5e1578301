import unittest
from itertools import permutations

from samples import ANN, BOB, CAT, DAN, EVE, HANDS
from strangerbench.handpairs import home_of, pairs_of


class TestHandPairs(unittest.TestCase):
    def test_pairs_rise(self):
        told = pairs_of((BOB, ANN, CAT))
        self.assertEqual(told, ((ANN, BOB), (ANN, CAT), (BOB, CAT)))
        self.assertIs(type(told), tuple)
        for pair in told:
            self.assertIs(type(pair), tuple)

    def test_any_order_tells_the_same(self):
        told = pairs_of(hands=HANDS)
        self.assertEqual(len(told), 10)
        self.assertEqual(list(told), sorted(set(told)))
        for hands in permutations(HANDS):
            self.assertEqual(pairs_of(hands), told)

    def test_few_hands(self):
        self.assertEqual(pairs_of(()), ())
        self.assertEqual(pairs_of((ANN,)), ())
        self.assertEqual(pairs_of((BOB, ANN)), ((ANN, BOB),))

    def test_home_is_that_of_the_greater_hand(self):
        self.assertEqual(home_of((ANN, BOB)), "oak")
        self.assertEqual(home_of(pair=(EVE, DAN)), "elm")
        self.assertEqual(home_of((BOB, CAT)), "oak")
        self.assertEqual(home_of((("ash", "zoe"), ("elm", "abe"))), "elm")


if __name__ == "__main__":
    unittest.main()
