import random
import unittest

from noted import A, B, C, D, X, matter
from samples import ANN, BOB, CAT, DAN, EVE, HANDS, all_tuples
from strangerbench.handpairs import pairs_of
from strangerbench.paths import path_voices, root_of
from strangerbench.tables import lacking, table_of


def paid(root, hands, day=0):
    """Burnings that pay all pairs of the hands for the root."""
    return [(pair, root, day) for pair in pairs_of(hands)]


class TestTableOf(unittest.TestCase):
    def check(self, matters, wanted):
        before = repr(matters)
        told = table_of(matters)
        self.assertEqual(told, wanted)
        self.assertEqual(table_of(matters=matters), told)
        self.assertIs(all_tuples(told), True)
        self.assertEqual(repr(matters), before)

    def test_none(self):
        self.check((), ())

    def test_of_each_its_root(self):
        self.check((matter(A, voices=(ANN, BOB)), matter(B), matter(X, voices=(CAT,))),
                   ((A, (ANN, BOB)), (B, ()), (X, (CAT,))))

    def test_paths_that_share_a_root(self):
        matters = (matter(A, voices=(ANN,), end="yes"), matter(B, lower=A, voices=(DAN,), end="no"),
                   matter(C, lower=A, voices=(BOB,)), matter(D, lower=B, voices=(ANN, CAT)))
        self.check(matters, ((A, (ANN,)), (A, (ANN, DAN)), (A, (ANN, DAN, CAT)), (A, (ANN, BOB))))

    def test_like_ones_once(self):
        matters = (matter(A, voices=(ANN, DAN), end="yes"), matter(B, lower=A), matter(C, lower=A, voices=(DAN,)),
                   matter(D, voices=(ANN, DAN)))
        self.check(matters, ((A, (ANN, DAN)), (D, (ANN, DAN))))

    def test_any_matters(self):
        chance = random.Random(50)
        for _ in range(50):
            matters = []
            for number in range(8):
                lower = chance.choice([one[0] for one in matters] + [None])
                voices = tuple(sorted(chance.sample(HANDS, chance.randrange(3))))
                matters.append(matter(("elm", 0, number), lower=lower, voices=voices))
            matters = tuple(matters)
            rows = {(root_of(matters, one[0]), path_voices(matters, one[0])) for one in matters}
            self.check(matters, tuple(sorted(rows)))


class TestLacking(unittest.TestCase):
    def check(self, table, burnings, wanted):
        burnings = tuple(sorted(burnings))
        before = repr((table, burnings))
        told = lacking(table, burnings)
        self.assertEqual(told, wanted)
        self.assertEqual(lacking(table=table, burnings=burnings), told)
        self.assertIs(all_tuples(told), True)
        self.assertEqual(repr((table, burnings)), before)

    def test_nothing_to_pay(self):
        self.check((), [], None)
        self.check(((A, ()), (A, (ANN,)), (B, (BOB,))), [], None)
        self.check((), paid(A, HANDS), None)

    def test_all_paid(self):
        table = ((A, (ANN, DAN)), (A, (ANN, DAN, BOB)), (B, (EVE, CAT)))
        self.check(table, paid(A, (ANN, DAN, BOB)) + paid(B, (EVE, CAT), 9), None)

    def test_the_first_that_lacks(self):
        table = ((A, (ANN, BOB)), (A, (ANN, DAN, BOB)), (B, (EVE, ANN)), (B, (EVE, ANN, CAT)))
        self.check(table, [], (A, (ANN, BOB)))
        self.check(table, paid(A, (ANN, BOB)), (A, (ANN, DAN)))
        self.check(table, paid(A, (ANN, BOB)) + paid(A, (ANN, DAN)), (A, (DAN, BOB)))
        self.check(table, paid(A, (ANN, DAN, BOB)), (B, (EVE, ANN)))
        self.check(table, paid(A, (ANN, DAN, BOB)) + paid(B, (EVE, CAT)), (B, (EVE, ANN)))
        self.check(table, paid(A, (ANN, DAN, BOB)) + paid(B, (EVE, ANN)), (B, (EVE, CAT)))
        self.check(table, paid(A, (ANN, DAN, BOB)) + paid(B, (EVE, ANN, CAT)), None)
        # Pair by pair of the table, though a lesser pair lacks behind it.
        self.check(((A, (BOB, CAT)), (B, (EVE, ANN))), [], (A, (BOB, CAT)))

    def test_for_another_root(self):
        self.check(((A, (ANN, DAN)),), paid(B, (ANN, DAN)) + paid(X, (ANN, DAN)), (A, (ANN, DAN)))

    def test_of_more_hands_than_two(self):
        table = ((A, HANDS),)
        for pair in pairs_of(HANDS):
            self.check(table, [one for one in paid(A, HANDS) if one[0] != pair], (A, pair))


if __name__ == "__main__":
    unittest.main()
