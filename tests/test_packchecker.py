import random
import unittest
from itertools import combinations

from samples import ANN, ANY_THINGS, BOB, CAT, DAN, EVE, HANDS, refusal
from strangerbench.benches import benches_of
from strangerbench.handpairs import pairs_of
from strangerbench.packchecker import lets_packing
from strangerbench.packing import packing_of
from strangerbench.packpapers import pack_paper

# Four hands, every pair free: four benches of three, each two of which have a pair in common.
A, B, C, D = EVE, ANN, DAN, BOB
FOUR = ((A, B, C, D), pairs_of((A, B, C, D)), 3)
ABC, ABD, ACD, BCD = benches_of(FOUR)
PACKED = (ABC,)


def weights(*rows):
    """A part of pairs and weights."""
    return ("weights", rows)


def half(*pairs):
    """A part that gives each of the pairs a half."""
    return weights(*[(pair, (1, 2)) for pair in pairs])


# All of the four benches have one of these two pairs, so all weights come to 2, just too much for one bench.
TWO = weights(((A, B), (1, 1)), ((C, D), (1, 1)))
THIRDS = weights(*[(pair, (1, 3)) for pair in FOUR[1]])
# One is taken: nothing is left. The one is not: the others have two pairs that go through all.
SPLIT = ("split", ABC, 1, 2)
NOTHING = weights()
OTHERS = half((A, D), (B, D), (C, D))
PAPER = (PACKED, (SPLIT, NOTHING, OTHERS))


class CheckCase(unittest.TestCase):
    def refused(self, thing, word, at, call=FOUR):
        before = repr(thing)
        told = refusal(lets_packing, call, thing)
        self.assertEqual(told, ("NoPaper", word, at), thing)
        self.assertIs(type(told[2]), int)
        self.assertEqual(refusal(lets_packing, call=call, thing=thing, most=35), told)
        self.assertEqual(repr(thing), before)

    def let_by(self, thing, many, call=FOUR, **more):
        told = lets_packing(call, thing, **more)
        self.assertEqual(told, many)
        self.assertIs(type(told), int)
        self.assertEqual(lets_packing(call=call, thing=thing, **more), many)


class TestShape(CheckCase):
    def test_any_things(self):
        for thing in ANY_THINGS + [((), ()), ((), [()]), ((), ((),)), (PACKED, None), PACKED, (PACKED, SPLIT)]:
            self.refused(thing, "shape", -1)
            self.refused(thing, "shape", -1, call=((), (), 2))

    def test_the_paper(self):
        for thing in (list(PAPER), (list(PACKED), PAPER[1]), (PACKED, list(PAPER[1])), PAPER[:1], PAPER + (0,),
                      (PACKED, ()), ("", PAPER[1]), (None, PAPER[1]), (0, PAPER[1])):
            self.refused(thing, "shape", -1)

    def test_weights(self):
        pair = (A, B)
        for rows in (None, [], [(pair, (1, 1))], (None,), ((pair,),), ((pair, (1, 1), 0),), ([pair, (1, 1)],),
                     ((A, (1, 1)),), (((B, A), (1, 1)),), (([A, B], (1, 1)),), ((pair, 1),), ((pair, (2, 2)),),
                     ((pair, (0, 2)),), ((pair, (-1, 2)),), ((pair, (1, 0)),), ((pair, (True, 1)),), ((pair, [1, 1]),),
                     (pair, (1, 1)), ((pair, None),)):
            self.refused((PACKED, (("weights", rows),)), "shape", -1)
        for part in (["weights", ()], ("weights",), ("weights", (), ()), ("few",), ("cover", ()), ("", ()), ()):
            self.refused((PACKED, (part,)), "shape", -1)
            self.refused((PACKED, PAPER[1] + (part,)), "shape", -1)

    def test_splits(self):
        for at, things in ((1, (None, list(ABC), "elm", 0)), (2, (None, True, "1", (1,), [1])),
                           (3, (None, False, "2", (2,), [2]))):
            for thing in things:
                part = SPLIT[:at] + (thing,) + SPLIT[at + 1:]
                self.refused((PACKED, (part, NOTHING, OTHERS)), "shape", -1)
                # Ahead of what is wrong with the packing, too.
                self.refused(((None,), (part, NOTHING, OTHERS)), "shape", -1)
        for part in (SPLIT[:3], SPLIT + (3,), list(SPLIT)):
            self.refused((PACKED, (part, NOTHING, OTHERS)), "shape", -1)


class TestPacked(CheckCase):
    two = (HANDS, ((A, B), (A, C), (B, C), (C, D), (C, CAT), (D, CAT)), 3)

    def test_let_by(self):
        self.let_by(PAPER, 1)
        self.let_by(((ABC, (C, D, CAT)), (weights(((A, B), (1, 1)), ((C, D), (1, 1))),)), 2, call=self.two)
        self.let_by(((), (weights(),)), 0, call=((), (), 2))
        self.let_by(((), (weights(),)), 0, call=(HANDS, (), 3))

    def test_bench(self):
        parts = PAPER[1]
        for thing in (None, 0, True, "elm", (), [], list(ABC), ABC[:2], (A, B, CAT), ABC[::-1], (A, B, C, D), (ABC,),
                      ([],), ([A], B, C)):
            self.refused(((thing,), parts), "bench", 0)
            self.refused(((ABC, thing), parts), "bench", 1)
            self.refused(((thing, None), parts), "bench", 0)

    def test_rise(self):
        self.refused(((ABC, ABC), PAPER[1]), "rise", 1)
        self.refused(((ABD, ABC), PAPER[1]), "rise", 1)
        self.refused((((C, D, CAT), ABC), (NOTHING,)), "rise", 1, call=self.two)

    def test_pair(self):
        for one, other in combinations((ABC, ABD, ACD, BCD), 2):
            self.refused(((one, other), PAPER[1]), "pair", 1)
        # With one ahead that isn't the last one ahead.
        six = (HANDS, pairs_of(HANDS), 3)
        self.refused(((ABC, (A, D, CAT), (B, C, D)), (NOTHING,)), "pair", 2, call=six)

    def test_thing_by_thing(self):
        self.refused(((ABC, ABD, None), PAPER[1]), "pair", 1)
        self.refused(((ABC, ABC, None), PAPER[1]), "rise", 1)
        self.refused(((BCD, ABD), PAPER[1]), "rise", 1)
        self.refused(((ABC, None, ABC), PAPER[1]), "bench", 1)
        # All of the packing goes ahead of the parts.
        self.refused(((ABC, ABD), (SPLIT,)), "pair", 1)
        self.refused((PACKED, (SPLIT,)), "part", 0)


class TestParts(CheckCase):
    def test_part(self):
        for parts, at in (
            ((("split", ABC, 0, 1), NOTHING), 0), ((("split", ABC, 1, 0), NOTHING), 0),
            ((("split", ABC, -1, 1), NOTHING), 0), ((SPLIT, ("split", ABD, 1, 2), OTHERS), 1),
            ((SPLIT,), 0), ((SPLIT, NOTHING), 0), ((("split", ABC, 1, 3), NOTHING, OTHERS), 0),
            ((("split", ABC, 1, 1), NOTHING), 0), ((SPLIT, ("split", ABD, 2, 3), OTHERS, NOTHING), 1),
            ((SPLIT, ("split", ABD, 3, 2), OTHERS, NOTHING), 1),
            ((THIRDS, THIRDS), 1), ((SPLIT, NOTHING, OTHERS, NOTHING), 3),
            ((("split", ABC, 1, 3), NOTHING, NOTHING, OTHERS), 2),
            ((("split", None, 1, 2), NOTHING, OTHERS), None),
        ):
            if at is None:
                self.refused((PACKED, parts), "shape", -1)
            else:
                self.refused((PACKED, parts), "part", at)
        # Ahead of what the parts show.
        self.refused((PACKED, (TWO, TWO)), "part", 1)

    def test_weights_rise(self):
        one, other = ((A, B), (1, 1)), ((C, D), (1, 3))
        for rows in ((other, one), (one, one), (one, ((A, B), (1, 3))), (one, other, other)):
            self.refused((PACKED, (weights(*rows),)), "rise", 0)
        self.refused((PACKED, (SPLIT, weights(other, one), OTHERS)), "rise", 1)
        # Weights alone may fall.
        self.let_by((PACKED, (SPLIT, NOTHING, weights(((A, D), (3, 5)), ((B, D), (2, 5)), ((C, D), (3, 5))))), 1)

    def test_light(self):
        self.refused((PACKED, (weights(),)), "light", 0)
        self.refused((PACKED, (SPLIT, NOTHING, half((A, D), (B, D)))), "light", 2)
        # Just 1, and just less.
        self.let_by((PACKED, (SPLIT, NOTHING, weights(((A, D), (1, 3)), ((B, D), (2, 3)), ((C, D), (2, 3))))), 1)
        near = weights(((A, D), (10 ** 59, 3 * 10 ** 59 + 1)), ((B, D), (2, 3)), ((C, D), (2, 3)))
        self.refused((PACKED, (SPLIT, NOTHING, near)), "light", 2)
        # A pair with a weight of 0, and a pair of nobody here, do nothing.
        self.refused((PACKED, (weights(((A, C), (0, 1)), ((A, CAT), (1, 1))),)), "light", 0)

    def test_heavy(self):
        self.refused((PACKED, (TWO,)), "heavy", 0)
        self.refused((PACKED, (THIRDS,)), "heavy", 0)
        # All weights come to 3 halves, with nothing taken and one bench: less than 2.
        self.let_by(PAPER, 1)
        # Just below 2.
        near = weights(((A, D), (1, 2)), ((B, D), (1, 2)), ((C, D), (10 ** 59 - 1, 10 ** 59)))
        self.let_by((PACKED, (SPLIT, NOTHING, near)), 1)
        self.refused((PACKED, (SPLIT, NOTHING, weights(((A, D), (1, 2)), ((B, D), (1, 2)), ((C, D), (1, 1))))), "heavy", 2)
        # Weights of a pair of nobody count as well.
        self.refused((PACKED, (SPLIT, NOTHING, weights(((A, D), (1, 2)), ((B, D), (1, 2)), ((C, D), (1, 2)),
                                                       ((CAT, ("oak", "dee")), (1, 2))))), "heavy", 2)
        # One is taken: less than 1 is left.
        self.refused((PACKED, (SPLIT, weights(((A, B), (1, 1))), OTHERS)), "heavy", 1)
        self.let_by((PACKED, (SPLIT, weights(((A, B), (1, 2)), ((C, D), (1, 3))), OTHERS)), 1)

    def test_a_packing_that_is_too_small(self):
        # Without a bench nothing is let by, however it is shown.
        for parts in (PAPER[1], (TWO,), (THIRDS,)):
            self.assertEqual(refusal(lets_packing, FOUR, ((), parts))[1], "heavy")
        self.refused(((), PAPER[1]), "heavy", 1)

    def test_split_bench(self):
        for bench in ((), ABC[::-1], (A, B, CAT), (None,), ([], 0), (list(A), B, C), (A, B)):
            self.refused((PACKED, (("split", bench, 1, 2), NOTHING, OTHERS)), "bench", 0)
        self.refused((PACKED, (SPLIT, ("split", ABD, 3, 4), OTHERS, NOTHING, NOTHING)), "bench", 1)
        self.refused((PACKED, (SPLIT, NOTHING, ("split", ABC, 3, 4), NOTHING, OTHERS)), "bench", 2)

    def test_splits_that_go_on(self):
        more = ("split", ABD, 3, 4)
        self.let_by((PACKED, (SPLIT, NOTHING, more, NOTHING, weights(((C, D), (1, 1))))), 1)
        self.refused((PACKED, (SPLIT, NOTHING, more, weights(((C, D), (1, 1))), weights(((C, D), (1, 1))))), "heavy", 3)

    def test_part_by_part(self):
        self.refused((PACKED, (SPLIT, weights(((A, B), (1, 1))), NOTHING)), "heavy", 1)
        self.refused((PACKED, (SPLIT, NOTHING, NOTHING)), "light", 2)
        rows = (((C, D), (9, 1)), ((A, D), (9, 1)))
        self.refused((PACKED, (SPLIT, NOTHING, weights(*rows))), "rise", 2)
        self.refused((PACKED, (SPLIT, NOTHING, weights(rows[1]))), "light", 2)
        self.refused((PACKED, (SPLIT, NOTHING, weights(rows[1], ((B, C), (0, 1))))), "light", 2)
        self.refused((PACKED, (SPLIT, NOTHING, weights(rows[1], ((B, D), (1, 1)), rows[0]))), "heavy", 2)


class TestNoMore(CheckCase):
    def test_ahead_of_the_shape(self):
        for thing in ANY_THINGS + [PAPER]:
            for most in (3, 0, -1):
                self.assertEqual(refusal(lets_packing, FOUR, thing, most=most), ("NoMore", most))
        nine = (tuple([("elm", sign) for sign in "abcdefghi"]), (), 2)
        nine = (nine[0], pairs_of(nine[0]), 2)
        for thing in (None, PAPER, pack_paper(nine, most=36)):
            self.assertEqual(refusal(lets_packing, nine, thing), ("NoMore", 35))
        self.let_by(pack_paper(nine, most=36), 36, call=nine, most=36)

    def test_just_as_many(self):
        self.let_by(PAPER, 1, most=4)
        self.assertEqual(refusal(lets_packing, FOUR, None, most=4), ("NoPaper", "shape", -1))

    def test_most_goes_by_name_alone(self):
        with self.assertRaises(TypeError):
            lets_packing(FOUR, PAPER, 35)


class TestByAnybody(unittest.TestCase):
    """Point 68: no packing has more benches than one that is let by, whoever wrote it."""

    def is_let_by(self, call, thing):
        try:
            return lets_packing(call, thing) == len(thing[0])
        except ValueError:
            return False

    def some_part(self, chance, told, pairs, named):
        """A part by whoever."""
        if named < 7 and chance.random() < 0.5:
            return ("split", chance.choice(told), named, named + 1)
        rows = [(pair, chance.choice(((1, 3), (1, 2), (1, 1)))) for pair in pairs if chance.random() < 0.4]
        return ("weights", tuple(rows))

    def test_parts_by_whoever(self):
        chance = random.Random(68)
        let_by = 0
        for _ in range(6000):
            pairs = tuple([pair for pair in FOUR[1] if chance.random() < 0.9])
            call = (FOUR[0], pairs, 3)
            told = benches_of(call)
            if not told:
                continue
            packed = tuple([bench for bench in told if chance.random() < 0.3])
            parts, named = [], 1
            while len(parts) < named:
                parts.append(self.some_part(chance, told, pairs, named))
                named += 2 * (parts[-1][0] == "split")
            if self.is_let_by(call, (packed, tuple(parts))):
                let_by += 1
                self.assertEqual(len(packed), len(packing_of(call)))
        self.assertGreater(let_by, 40)

    def test_a_smaller_packing(self):
        # Right parts let by no packing with fewer benches, and none with more is a packing.
        chance = random.Random(69)
        for _ in range(40):
            free = tuple([pair for pair in pairs_of(HANDS) if chance.random() < 0.8])
            call = (HANDS, free, 3)
            packed, parts = pack_paper(call)
            self.assertIs(self.is_let_by(call, (packed, parts)), True)
            for many in range(len(packed)):
                for fewer in combinations(packed, many):
                    self.assertIs(self.is_let_by(call, (fewer, parts)), False)
            for more in combinations(benches_of(call), len(packed) + 1):
                self.assertIs(self.is_let_by(call, (more, parts)), False)


if __name__ == "__main__":
    unittest.main()
