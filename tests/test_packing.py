import random
import unittest
from itertools import combinations

from samples import ANN, BOB, CAT, DAN, EVE, HANDS, all_tuples, refusal
from strangerbench import benches, packing, packpapers
from strangerbench.benches import benches_of
from strangerbench.fractions import fraction_sum, is_fraction, is_less
from strangerbench.handpairs import pairs_of
from strangerbench.packchecker import lets_packing
from strangerbench.packing import packing_of
from strangerbench.packpapers import pack_paper

MANY = tuple([("elm", "h" + sign) for sign in "abcdefghijkl"])
SEVEN = (MANY[:7], pairs_of(MANY[:7]), 3)


def all_free(many, seats):
    """A call of so many hands with every pair free."""
    return (MANY[:many], pairs_of(MANY[:many]), seats)


def some_call(chance, many, seats):
    """A call of so many hands with some pairs free."""
    share = chance.random()
    return (MANY[:many], tuple([pair for pair in pairs_of(MANY[:many]) if chance.random() < share]), seats)


def are_apart(told):
    """Whether no two of the benches have a pair in common."""
    pairs = [pair for bench in told for pair in pairs_of(bench)]
    return len(pairs) == len(set(pairs))


def most_by_trying(told):
    """How many of the benches are apart at most, by looking at ever fewer."""
    for many in range(len(told), 0, -1):
        for chosen in combinations(told, many):
            if are_apart(chosen):
                return many
    return 0


class PackCase(unittest.TestCase):
    def check(self, call, many=None, **more):
        """A packing of the call, with so many benches where that is told, and the paper for it."""
        before = repr(call)
        told = packing_of(call, **more)
        paper = pack_paper(call, **more)
        self.assertEqual(repr(call), before)
        self.assertEqual(packing_of(call=call, **more), told)
        self.assertEqual(pack_paper(call=call, **more), paper)
        self.assertIs(all_tuples((told, paper)), True)
        for one in (told, paper[0]):
            self.assertEqual(one, tuple(sorted(set(one))))
            self.assertLessEqual(set(one), set(benches_of(call)))
            self.assertIs(are_apart(one), True)
        self.assertEqual(lets_packing(call, paper, **more), len(told))
        self.assertEqual(len(paper[0]), len(told))
        if many is not None:
            self.assertEqual(len(told), many)
        return paper


class TestPacking(PackCase):
    def test_no_benches(self):
        for call in (((), (), 2), (HANDS, (), 3), (HANDS[:2], pairs_of(HANDS[:2]), 3), all_free(4, 5)):
            self.assertEqual(packing_of(call), ())
            self.assertEqual(self.check(call), ((), (("weights", ()),)))

    def test_two_seats(self):
        # Each bench is a pair: all of them are apart.
        for many in range(2, 9):
            call = all_free(many, 2)
            self.assertEqual(packing_of(call), benches_of(call))
            self.check(call, many * (many - 1) // 2)

    def test_every_pair_free(self):
        for many, seats, wanted in ((3, 3, 1), (4, 3, 1), (5, 3, 2), (6, 3, 4), (7, 3, 7), (4, 4, 1), (5, 4, 1),
                                    (6, 4, 1), (7, 4, 2), (5, 5, 1), (6, 5, 1), (7, 5, 1)):
            self.check(all_free(many, seats), wanted)

    def test_few_pairs(self):
        call = (HANDS, ((EVE, ANN), (EVE, DAN), (EVE, BOB), (ANN, DAN), (ANN, BOB), (BOB, CAT)), 3)
        self.assertEqual(benches_of(call), ((EVE, ANN, DAN), (EVE, ANN, BOB)))
        self.check(call, 1)
        call = (HANDS, ((EVE, ANN), (EVE, DAN), (ANN, DAN), (DAN, BOB), (DAN, CAT), (BOB, CAT)), 3)
        self.assertEqual(packing_of(call), ((EVE, ANN, DAN), (DAN, BOB, CAT)))
        self.check(call, 2)

    def test_seven_hands(self):
        told, parts = self.check(SEVEN, 7)
        self.assertEqual(len(set([pair for bench in told for pair in pairs_of(bench)])), 21)
        third = tuple([(pair, (1, 3)) for pair in SEVEN[1]])
        self.assertEqual(lets_packing(SEVEN, (told, (("weights", third),))), 7)
        self.assertEqual(parts, (("weights", third),))

    def test_against_trying(self):
        chance = random.Random(65)
        tried = 0
        while tried < 150:
            call = some_call(chance, chance.choice((5, 6, 7)), chance.choice((3, 3, 4)))
            if 0 < len(benches_of(call)) <= 13:
                tried += 1
                self.check(call, most_by_trying(benches_of(call)))

    def test_many_calls(self):
        chance = random.Random(66)
        for _ in range(60):
            for many in (6, 7):
                for seats in (3, 4, 5):
                    self.check(some_call(chance, many, seats))
        for _ in range(15):
            call = some_call(chance, 9, 3)
            if len(benches_of(call)) <= 35:
                self.check(call)

    def test_nine_hands_in_rows_and_columns(self):
        call = all_free(9, 3)
        self.check(call, 12, most=84)


class TestNoMore(PackCase):
    def test_just_as_many_and_one_more(self):
        for call in (SEVEN, all_free(5, 3), all_free(4, 2), (HANDS, (), 2)):
            many = len(benches_of(call))
            self.check(call, most=many)
            self.check(call, most=many + 1)
            for act in (packing_of, pack_paper):
                self.assertEqual(refusal(act, call, most=many - 1), ("NoMore", many - 1))
                self.assertEqual(refusal(act, call=call, most=-5), ("NoMore", -5))

    def test_35_where_it_is_left_out(self):
        self.assertEqual(benches.MOST, 35)
        self.assertEqual(len(benches_of(SEVEN)), 35)
        self.check(SEVEN)
        nine = all_free(9, 2)
        self.assertEqual(len(benches_of(nine)), 36)
        for act in (packing_of, pack_paper):
            self.assertEqual(refusal(act, nine), ("NoMore", 35))
        self.check((nine[0], nine[1][1:], 2), 35)
        self.check(nine, 36, most=36)

    def test_most_goes_by_name_alone(self):
        for act in (packing_of, pack_paper):
            with self.assertRaises(TypeError):
                act(SEVEN, 35)


class TestWithin(unittest.TestCase):
    """What the papers rest on."""

    def test_weights_are_the_lightest(self):
        chance = random.Random(67)
        for _ in range(80):
            told = benches_of(some_call(chance, 7, 3))
            if not told:
                continue
            rows = packpapers.lightest(told)
            self.assertEqual(rows, tuple(sorted(rows)))
            weights = dict(rows)
            for weight in weights.values():
                self.assertIs(is_fraction(weight), True)
            for bench in told:
                own = fraction_sum(tuple([weights.get(pair, (0, 1)) for pair in pairs_of(bench)]))
                self.assertIs(is_less(own, (1, 1)), False)
            # No packing is heavier than all weights, and thirds on all pairs are never lighter.
            total = fraction_sum(tuple(weights.values()))
            pairs = {pair for bench in told for pair in pairs_of(bench)}
            self.assertIs(is_less(fraction_sum(((1, 3),) * len(pairs)), total), False)
            self.assertIs(is_less(total, (len(packing.best_packing(told)), 1)), False)

    def test_room(self):
        chance = random.Random(68)
        for _ in range(80):
            told = benches_of(some_call(chance, 7, chance.choice((2, 3, 4))))
            self.assertGreaterEqual(packing.room_for(told), len(packing.best_packing(told)))
        self.assertEqual(packing.room_for(()), 0)


if __name__ == "__main__":
    unittest.main()
