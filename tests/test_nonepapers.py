import random
import unittest
from itertools import combinations

from samples import ANN, BOB, CAT, DAN, EVE, HANDS, all_tuples
from strangerbench.benches import benches_of
from strangerbench.handpairs import pairs_of
from strangerbench.nonechecker import lets_seating
from strangerbench.nonepapers import seat_or_none

MANY = tuple([("elm", "h" + sign) for sign in "abcdefghijkl"])


def ring(many, seats):
    """A call of hands in a ring, each free with its two neighbours alone."""
    hands = MANY[:many]
    return (hands, tuple(sorted([tuple(sorted((hands[at], hands[at - 1]))) for at in range(many)])), seats)


class PaperCase(unittest.TestCase):
    def check(self, call):
        """The paper of the call, which has to be let by."""
        before = repr(call)
        told = seat_or_none(call)
        self.assertEqual(repr(call), before)
        self.assertEqual(seat_or_none(call=call), told)
        self.assertIs(all_tuples(told), True)
        self.assertEqual(lets_seating(call, told), told[0])
        benches = benches_of(call)
        self.assertEqual(told[0], "seat" if benches else "none")
        if benches:
            self.assertIn(told[1], benches)
        elif len(call[0]) <= 9:
            self.assertLessEqual(len(told[1]), 1100)
        return told


class TestSeatOrNone(PaperCase):
    def test_no_hands_or_fewer_than_seats(self):
        for seats in (2, 3, 4, 5):
            self.assertEqual(self.check(((), (), seats)), ("none", (("few",),)))
            for many in range(1, seats):
                hands = MANY[:many]
                self.assertEqual(self.check((hands, pairs_of(hands), seats)), ("none", (("few",),)))

    def test_every_pair_free(self):
        for seats in (2, 3, 4, 5):
            for many in range(seats, 13):
                hands = MANY[:many]
                self.assertEqual(self.check((hands, pairs_of(hands), seats))[0], "seat")

    def test_no_pair_free(self):
        for seats in (2, 3, 4, 5):
            for many in range(seats, 13):
                self.assertEqual(self.check((MANY[:many], (), seats)), ("none", (("cover", (MANY[:many],)),)))

    def test_a_bench(self):
        call = (HANDS, ((EVE, ANN), (EVE, DAN), (ANN, DAN), (DAN, BOB)), 3)
        self.assertEqual(self.check(call), ("seat", (EVE, ANN, DAN)))
        self.assertEqual(self.check(call[:2] + (4,))[0], "none")
        self.assertEqual(self.check((HANDS, ((BOB, CAT),), 2)), ("seat", (BOB, CAT)))

    def test_rings(self):
        for many in (5, 6, 7, 8, 9):
            for seats in (3, 4, 5):
                told = self.check(ring(many, seats))
                self.assertEqual(told[0], "none")
                # A ring of an odd number goes into no two lots: three seats take more than a cover there.
                if seats == 3:
                    words = [part[0] for part in told[1]]
                    self.assertEqual("split" in words, many % 2 == 1)
        self.assertEqual(self.check(ring(3, 3))[0], "seat")

    def test_nine_hands(self):
        chance = random.Random(61)
        pairs = pairs_of(MANY[:9])
        for _ in range(150):
            share = chance.random()
            free = tuple([pair for pair in pairs if chance.random() < share])
            for seats in (2, 3, 4, 5):
                self.check((MANY[:9], free, seats))

    def test_nine_hands_that_are_hard(self):
        # All but what lies within each of few lots: as many lots as seats less one, and such with rings put in.
        for seats in (3, 4, 5):
            lots = [MANY[start:9:seats - 1] for start in range(seats - 1)]
            within = [pair for lot in lots for pair in pairs_of(lot)]
            free = tuple([pair for pair in pairs_of(MANY[:9]) if pair not in within])
            self.assertEqual(self.check((MANY[:9], free, seats))[0], "none")
        around = [pair for pair in ring(5, 3)[1]]
        other = [tuple(sorted((MANY[5 + at], MANY[5 + (at + 1) % 4]))) for at in range(4)]
        across = [(one, two) for one in MANY[:5] for two in MANY[5:9]]
        told = self.check((MANY[:9], tuple(sorted(around + other + across)), 5))
        self.assertEqual(told[0], "none")

    def test_all_small_calls(self):
        hands = MANY[:4]
        pairs = pairs_of(hands)
        for many in range(7):
            for free in combinations(pairs, many):
                for seats in (2, 3, 4):
                    self.check((hands, free, seats))

    def test_twelve_hands(self):
        chance = random.Random(12)
        for _ in range(20):
            free = tuple([pair for pair in pairs_of(MANY) if chance.random() < 0.4])
            for seats in (3, 4, 5):
                self.check((MANY, free, seats))


if __name__ == "__main__":
    unittest.main()
