import random
import unittest
from itertools import combinations, product

from samples import ANN, ANY_THINGS, BOB, CAT, DAN, EVE, HANDS, refusal
from strangerbench.benches import benches_of
from strangerbench.handpairs import pairs_of
from strangerbench.nonechecker import lets_seating
from strangerbench.nonepapers import seat_or_none

FREE = ((EVE, ANN), (EVE, DAN), (ANN, DAN), (DAN, BOB))
CALL = (HANDS, FREE, 3)
ABE = ("fir", "abe")
# Five hands in a ring: no two lots take them, so three seats need a split.
A, B, C, D, E = [("elm", sign) for sign in "abcde"]
RING = ((A, B, C, D, E), ((A, B), (A, E), (B, C), (C, D), (D, E)), 3)
SPLIT = ("split", A, 1, 2)
SITS = ("cover", ((B, E),))
OUT = ("cover", ((B, D), (C, E)))
NONE = ("none", (SPLIT, SITS, OUT))


class CheckCase(unittest.TestCase):
    def refused(self, call, thing, word, at):
        before = repr(thing)
        told = refusal(lets_seating, call, thing)
        self.assertEqual(told, ("NoPaper", word, at), thing)
        # A place is a number, or a tuple of numbers, and no truth.
        self.assertIs(type(told[2]), type(at))
        self.assertEqual(refusal(lets_seating, call=call, thing=thing), told)
        self.assertEqual(repr(thing), before)

    def let_by(self, call, thing, word):
        self.assertEqual(lets_seating(call, thing), word)
        self.assertEqual(lets_seating(call=call, thing=thing), word)


class TestShape(CheckCase):
    def test_any_things(self):
        for thing in ANY_THINGS:
            for call in (CALL, RING, ((), (), 2)):
                self.refused(call, thing, "shape", -1)

    def test_seat(self):
        bench = (EVE, ANN, DAN)
        for thing in (["seat", bench], ("seat", list(bench)), ("seat",), ("seat", bench, bench), ("Seat", bench),
                      ("seat", bench + (None,)), ("seat", (list(EVE), ANN, DAN)), ("seat", (EVE, ANN, "dan")),
                      ("seat", ANN), ("seat", (ANN, ("elm", 1))), (("seat",), bench), (None, bench), (True, bench),
                      ("seat", bench[:2] + (("elm", "Dan"),))):
            self.refused(CALL, thing, "shape", -1)

    def test_none(self):
        for parts in (None, (), [], [("few",)], "few", ("few",), (["few"],), (("few", 0),), (("few",), None), ((),),
                      (("none",),), (("seat",),), (("weights", ()),), ((0,),), (([],),)):
            self.refused(RING, ("none", parts), "shape", -1)
        for thing in (["none", (("few",),)], ("none",), ("none", (("few",),), 0), ("None", (("few",),))):
            self.refused(RING, thing, "shape", -1)

    def test_covers(self):
        for lots in (None, [], [(A,)], (None,), (A,), ([A],), ((list(A),),), ((A, "elm"),), ((A,), (B, None)), 0, "",
                     (((A,),),), ((A, ("elm", "B")),)):
            self.refused(RING, ("none", (("cover", lots),)), "shape", -1)
        self.refused(RING, ("none", (("cover",),)), "shape", -1)
        self.refused(RING, ("none", (("cover", (), ()),)), "shape", -1)

    def test_splits(self):
        for at, things in ((1, (None, list(A), "elm", (A, B), ("elm", "A"), (A,), 0)),
                           (2, (None, True, "1", (1,), [1])), (3, (None, False, "2", (2,), [2]))):
            for thing in things:
                part = SPLIT[:at] + (thing,) + SPLIT[at + 1:]
                self.refused(RING, ("none", (part, SITS, OUT)), "shape", -1)
                # The shape goes ahead of all else, wherever it is wrong.
                self.refused(RING, ("none", (("split", E, 0, 0), part, OUT)), "shape", -1)
        for part in (SPLIT[:3], SPLIT + (3,), list(SPLIT)):
            self.refused(RING, ("none", (part, SITS, OUT)), "shape", -1)


class TestSeat(CheckCase):
    def test_let_by(self):
        for bench in benches_of(CALL):
            self.let_by(CALL, ("seat", bench), "seat")
        self.let_by((HANDS, FREE, 2), ("seat", (DAN, BOB)), "seat")

    def test_many(self):
        for bench in ((), (EVE,), (EVE, ANN), (EVE, ANN, DAN, BOB), (ABE, ABE), (CAT, BOB, ABE, ABE)):
            self.refused(CALL, ("seat", bench), "many", -1)

    def test_hand(self):
        for bench, at in (((ABE, EVE, ANN), 0), ((EVE, ABE, ANN), 1), ((EVE, ANN, ABE), 2), ((EVE, EVE, ANN), 1),
                          ((ANN, EVE, DAN), 1), ((EVE, DAN, ANN), 2), ((EVE, DAN, DAN), 2), ((ABE, ABE, ABE), 0),
                          ((EVE, CAT, ANN), 2), ((CAT, EVE, ABE), 1)):
            self.refused(CALL, ("seat", bench), "hand", at)

    def test_pair(self):
        for bench, at in (((EVE, ANN, BOB), (0, 2)), ((EVE, DAN, BOB), (0, 2)), ((ANN, DAN, BOB), (0, 2)),
                          ((EVE, ANN, CAT), (0, 2)), ((EVE, BOB, CAT), (0, 1)), ((DAN, BOB, CAT), (0, 2))):
            self.refused(CALL, ("seat", bench), "pair", at)
        four = (HANDS, ((EVE, ANN), (EVE, DAN), (EVE, BOB), (ANN, DAN)), 4)
        self.refused(four, ("seat", (EVE, ANN, DAN, BOB)), "pair", (1, 3))
        self.refused(four[:1] + (FREE, 4), ("seat", (EVE, ANN, DAN, BOB)), "pair", (0, 3))
        self.refused((HANDS, (), 2), ("seat", (BOB, CAT)), "pair", (0, 1))


class TestParts(CheckCase):
    def test_let_by(self):
        self.let_by(RING, NONE, "none")
        self.let_by(RING, ("none", (("split", A, 2, 1), OUT, SITS)), "none")
        self.let_by(((), (), 2), ("none", (("few",),)), "none")
        self.let_by((HANDS, (), 2), ("none", (("cover", (HANDS,)),)), "none")
        # Lots may share a hand, have it twice, or be void, as long as they are few enough.
        self.let_by((HANDS, (), 4), ("none", (("cover", ((EVE, ANN, DAN), (DAN, BOB, BOB, CAT), ())),)), "none")
        self.let_by((HANDS, (), 2), ("none", (("cover", (HANDS[::-1] + HANDS,)),)), "none")
        self.let_by(((), (), 2), ("none", (("cover", ()),)), "none")

    def test_a_split_that_goes_on(self):
        # Each hand by itself: not to sit, not to sit, .., until too few are left.
        parts = (("split", A, 1, 2), SITS, ("split", E, 3, 4), ("cover", ((D,),)), ("split", D, 5, 6),
                 ("few",), ("few",))
        self.let_by(RING, ("none", parts), "none")
        # D is free with C alone, once E and A are out: one hand is left, and two are needed.
        self.refused(RING, ("none", parts[:5] + (("cover", ((C,), (C,))), ("few",))), "many", 5)

    def test_part(self):
        few = ("few",)
        for parts, at in (
            # Not behind it.
            ((("split", A, 0, 1), SITS), 0), ((("split", A, 1, 0), SITS), 0), ((("split", A, -1, 1), SITS), 0),
            ((SPLIT, ("split", B, 1, 2), OUT), 1), ((SPLIT, ("split", B, 0, 3), OUT, few), 1),
            # Not there.
            ((SPLIT,), 0), ((SPLIT, SITS), 0), ((("split", A, 1, 3), SITS, OUT), 0), ((("split", A, 9, 1), SITS), 0),
            ((("split", A, 1, 10 ** 59), SITS), 0),
            # Named ahead: by itself, by another.
            ((("split", A, 1, 1), SITS), 0), ((SPLIT, ("split", B, 2, 3), OUT, few), 1),
            ((SPLIT, ("split", B, 3, 2), OUT, few), 1),
            # Named by none ahead.
            ((few, few), 1), ((SPLIT, SITS, OUT, few), 3), ((("split", A, 1, 3), SITS, few, OUT), 2),
            ((few, SPLIT, SITS), 1),
        ):
            self.refused(RING, ("none", parts), "part", at)

    def test_parts_are_looked_at_ahead_of_what_they_show(self):
        # PART 0 shows nothing; yet the naming in a later one goes first.
        self.refused(RING, ("none", (("few",), ("few",))), "part", 1)
        self.refused(RING, ("none", (("split", ABE, 1, 2), SITS, ("split", ABE, 1, 3), OUT)), "part", 2)

    def test_few(self):
        for seats in (2, 3, 4, 5):
            for many in range(6):
                call = (HANDS[:many], (), seats)
                if many < seats:
                    self.let_by(call, ("none", (("few",),)), "none")
                else:
                    self.refused(call, ("none", (("few",),)), "few", 0)
        self.refused(RING, ("none", (SPLIT, ("few",), OUT)), "few", 1)
        self.refused(RING, ("none", (SPLIT, SITS, ("few",))), "few", 2)

    def test_cover_many(self):
        call = (HANDS, (), 3)
        for lots in ((HANDS, HANDS, HANDS), ((), (), ()), ((ABE,), (), HANDS, ())):
            self.refused(call, ("none", (("cover", lots),)), "many", 0)
        self.let_by(call, ("none", (("cover", (HANDS, HANDS)),)), "none")
        self.refused(RING, ("none", (SPLIT, ("cover", ((B,), (E,))), OUT)), "many", 1)

    def test_cover_hand(self):
        for lots in (((ABE,), HANDS), (HANDS + (ABE,),), ((A,), ())):
            self.refused((HANDS, (), 3), ("none", (("cover", lots),)), "hand", 0)
        # A sits, or is out: in neither part is it left; nor is C beside it.
        self.refused(RING, ("none", (SPLIT, ("cover", ((A, B, E),)), OUT)), "hand", 1)
        self.refused(RING, ("none", (SPLIT, ("cover", ((B, C, E),)), OUT)), "hand", 1)
        self.refused(RING, ("none", (SPLIT, SITS, ("cover", ((A, C), (B, D))))), "hand", 2)

    def test_cover_left(self):
        for lots in ((HANDS[:4],), (HANDS[1:],), (), ((),), ((EVE, ANN), (EVE, CAT, CAT, DAN))):
            self.refused((HANDS, (), 3), ("none", (("cover", lots),)), "left", 0)
        self.refused(RING, ("none", (SPLIT, ("cover", ((B,),)), OUT)), "left", 1)
        self.refused(RING, ("none", (SPLIT, SITS, ("cover", ((B, D), (C,))))), "left", 2)

    def test_cover_pair(self):
        self.refused((HANDS, ((BOB, CAT),), 3), ("none", (("cover", (HANDS,)),)), "pair", 0)
        self.refused((HANDS, ((BOB, CAT),), 3), ("none", (("cover", ((EVE, ANN, DAN), (CAT, BOB))),)), "pair", 0)
        self.refused((HANDS, ((EVE, CAT),), 3), ("none", (("cover", (HANDS[:4], (CAT, EVE))),)), "pair", 0)
        self.let_by((HANDS, ((BOB, CAT),), 3), ("none", (("cover", (HANDS[:4], (CAT,))),)), "none")
        self.refused(RING, ("none", (SPLIT, SITS, ("cover", ((B, C), (D, E))))), "pair", 2)

    def test_split_hand(self):
        self.refused(RING, ("none", (("split", ABE, 1, 2), SITS, OUT)), "hand", 0)
        few = ("few",)
        self.refused(RING, ("none", (SPLIT, ("split", A, 3, 4), OUT, few, few)), "hand", 1)
        self.refused(RING, ("none", (SPLIT, ("split", C, 3, 4), OUT, few, few)), "hand", 1)
        self.refused(RING, ("none", (SPLIT, SITS, ("split", A, 3, 4), few, few)), "hand", 2)

    def test_several_are_due(self):
        # Within a cover: many, hand, left, pair; each is told once those ahead of it are right.
        call = (HANDS, ((EVE, ANN),), 3)
        for lots, word in ((((EVE, ANN), (ABE,), ()), "many"), (((EVE, ANN), (ABE,)), "hand"),
                           (((EVE, ANN), (DAN, BOB)), "left"), (((EVE, ANN), (DAN, BOB, CAT)), "pair")):
            self.refused(call, ("none", (("cover", lots),)), word, 0)
        # Part by part: what is wrong with the first goes ahead, whatever it is.
        self.refused(RING, ("none", (SPLIT, ("cover", ((B, D),)), ("few",))), "hand", 1)
        self.refused(RING, ("none", (SPLIT, ("few",), ("cover", ()))), "few", 1)
        self.refused(CALL, ("seat", (ABE, EVE, CAT)), "hand", 0)
        self.refused(CALL, ("seat", (EVE, CAT, ABE)), "hand", 2)

    def test_nothing_is_needed_any_more(self):
        # Where all seats are taken by a bench, neither few nor a cover shows anything.
        call = ((A, B), ((A, B),), 2)
        start = (("split", A, 1, 2), ("split", B, 3, 4), ("few",))
        self.refused(call, ("none", start + (("cover", ()), ("few",))), "many", 3)
        self.refused(call, ("none", start + (("few",), ("few",))), "few", 3)


class TestByAnybody(unittest.TestCase):
    """Point 63: of each call just one of both is let by, whoever wrote it."""

    def is_let_by(self, call, thing):
        try:
            return lets_seating(call, thing) == thing[0]
        except ValueError:
            return False

    def some_parts(self, chance, hands, many):
        """Parts by whoever: splits by whatever hand, then few or whatever lots."""
        parts = []
        named = 1
        while len(parts) < named:
            if named < many and chance.random() < 0.6:
                parts.append(("split", chance.choice(hands), named, named + 1))
                named += 2
            elif chance.random() < 0.4:
                parts.append(("few",))
            else:
                lots = [[] for _ in range(chance.randrange(3))]
                for hand in hands:
                    if lots and chance.random() < 0.8:
                        chance.choice(lots).append(hand)
                parts.append(("cover", tuple([tuple(lot) for lot in lots])))
        return ("none", tuple(parts))

    def test_all_rows_of_so_many_hands(self):
        hands = (A, B, C, D)
        pairs = pairs_of(hands)
        for many in range(len(pairs) + 1):
            for free in combinations(pairs, many):
                for seats in (2, 3, 4):
                    call = (hands, free, seats)
                    told = [row for row in product(hands, repeat=seats) if self.is_let_by(call, ("seat", row))]
                    self.assertEqual(tuple(told), benches_of(call))
                    self.assertEqual(self.is_let_by(call, ("none", (("few",),))), False)
                    paper = seat_or_none(call)
                    self.assertIs(self.is_let_by(call, paper), True)
                    self.assertEqual(paper[0] == "none", not told)

    def test_parts_by_whoever(self):
        chance = random.Random(63)
        hands = (A, B, C, D)
        let_by = 0
        for _ in range(6000):
            free = tuple([pair for pair in pairs_of(hands) if chance.random() < 0.5])
            call = (hands, free, chance.randrange(2, 5))
            if self.is_let_by(call, self.some_parts(chance, hands, 5)):
                let_by += 1
                self.assertEqual(benches_of(call), ())
        self.assertGreater(let_by, 20)

    def test_parts_of_another_call(self):
        # What shows that one call has no bench shows nothing of one that has.
        chance = random.Random(62)
        papers, calls = [], []
        for _ in range(60):
            call = (HANDS, tuple([pair for pair in pairs_of(HANDS) if chance.random() < 0.6]), 3)
            paper = seat_or_none(call)
            if paper[0] == "none":
                papers.append(paper)
            else:
                calls.append(call)
        self.assertGreater(len(papers) * len(calls), 200)
        for call in calls:
            for paper in papers:
                self.assertIs(self.is_let_by(call, paper), False)

    def test_a_pair_more_takes_no_bench(self):
        chance = random.Random(64)
        for _ in range(100):
            free = [pair for pair in pairs_of(HANDS) if chance.random() < 0.5]
            more = tuple(sorted(set(free + [chance.choice(pairs_of(HANDS))])))
            for bench in benches_of((HANDS, tuple(free), 3)):
                self.assertIs(self.is_let_by((HANDS, more, 3), ("seat", bench)), True)


if __name__ == "__main__":
    unittest.main()
