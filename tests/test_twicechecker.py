import random
import unittest

from noted import A, B, C, X
from samples import ANN, ANY_THINGS, BOB, CAT, DAN, EVE, RULE, refusal, with_part
from strangerbench.twicechecker import lets_twice

ONE, OTHER, LAST = (ANN, DAN), (ANN, BOB), (BOB, CAT)
# Of the first pair two are just a span apart; of the last two are nearer.
BURNINGS = tuple(sorted([(ONE, A, 3), (ONE, B, 10), (OTHER, A, 3), (LAST, X, 4), (LAST, A, 10)]))
FAR = BURNINGS[:4]
TWICE = ("twice", (LAST, A, 10), (LAST, X, 4))
APART = ("apart", ((ONE, (3, 10)), (OTHER, (3,)), (LAST, (10,))))
NO_BURNINGS = (None, 0, "x", (), [], (LAST, A), (LAST, A, 10, 0), [LAST, A, 10], (list(LAST), A, 10),
               (LAST, list(A), 10), (LAST[::-1], A, 10), (LAST, A, True), (LAST, A, "10"), (LAST, A, -1),
               (LAST, A, [10]), ((), (), ()), (LAST, ("elm", False, 0), 10), (LAST, A, 11), (LAST, B, 10),
               ((EVE, CAT), A, 10), (None, None, None))


class TwiceCase(unittest.TestCase):
    def let_by(self, thing, burnings=BURNINGS, rule=RULE):
        self.assertEqual(lets_twice(rule, burnings, thing), thing[0])
        self.assertEqual(lets_twice(rule=rule, burnings=burnings, thing=thing), thing[0])

    def refused(self, thing, word, at, burnings=BURNINGS, rule=RULE):
        before = repr((rule, burnings, thing))
        told = refusal(lets_twice, rule, burnings, thing)
        self.assertEqual(told, ("NoPaper", word, at), thing)
        self.assertIs(type(told[2]), type(at))
        self.assertEqual(refusal(lets_twice, rule=rule, burnings=burnings, thing=thing), told)
        self.assertEqual(repr((rule, burnings, thing)), before)


class TestShape(TwiceCase):
    def test_any_things(self):
        for burnings in (BURNINGS, FAR, ()):
            for thing in ANY_THINGS:
                self.refused(thing, "shape", -1, burnings)
                if type(thing) is not tuple:
                    self.refused(("apart", thing), "shape", -1, burnings)
                if not (type(thing) is tuple and len(thing) == 2):
                    self.refused(("apart", (thing,)), "shape", -1, burnings)
                    self.refused(("apart", APART[1] + (thing,)), "shape", -1, burnings)

    def test_twice(self):
        for thing in (TWICE[:2], TWICE + (None,), list(TWICE), with_part(TWICE, 0, "Twice"), with_part(TWICE, 0, ""),
                      with_part(TWICE, 0, ("twice",)), with_part(TWICE, 0, None), ("apart",) + TWICE[1:], TWICE[1:],
                      ("twice", TWICE[1:])):
            self.refused(thing, "shape", -1)

    def test_apart(self):
        for thing in (APART[:1], APART + (None,), list(APART), with_part(APART, 0, "Apart"), ("twice", APART[1]),
                      ("apart", list(APART[1])), ("apart", APART[1], APART[1]), ("apart", "rows"),
                      ("apart", (list(APART[1][0]),)), ("apart", (APART[1][0] + (0,),)), ("apart", (APART[1][0][:1],))):
            self.refused(thing, "shape", -1, FAR)

    def test_ahead_of_all_else(self):
        self.refused(("apart", ((None, None), None)), "shape", -1)


class TestTwice(TwiceCase):
    def test_let_by(self):
        self.let_by(TWICE)
        self.let_by(("twice", (ONE, A, 3), (ONE, B, 10)), rule=RULE[:3] + (8,))
        same = ((ONE, A, 5), (ONE, B, 5))
        self.let_by(("twice",) + same, same)
        self.let_by(("twice",) + same, same, RULE[:3] + (1,))
        # Of one root, too.
        same = ((ONE, A, 5), (ONE, A, 6))
        self.let_by(("twice",) + same, same)

    def test_burning(self):
        for thing in NO_BURNINGS:
            self.refused(with_part(TWICE, 1, thing), "burning", 0)
            self.refused(with_part(TWICE, 2, thing), "burning", 1)
            self.refused(("twice", thing, thing), "burning", 0)
            # It goes ahead of order, pair, apart.
            self.refused(("twice", (OTHER, A, 3), thing), "burning", 1)
        for thing in ANY_THINGS:
            self.refused(with_part(TWICE, 1, thing), "burning", 0)
            self.refused(with_part(TWICE, 2, thing), "burning", 1)
            self.refused(TWICE, "burning", 0, ())
        self.refused(TWICE, "burning", 0, FAR[:3])
        self.refused(TWICE, "burning", 1, FAR)

    def test_order(self):
        self.refused(("twice", TWICE[2], TWICE[1]), "order", -1)
        for burning in BURNINGS:
            self.refused(("twice", burning, burning), "order", -1)
        # It goes ahead of pair and apart.
        self.refused(("twice", (OTHER, A, 3), (ONE, A, 3)), "order", -1)
        self.refused(("twice", (ONE, B, 10), (ONE, A, 3)), "order", -1)

    def test_pair(self):
        self.refused(("twice", (ONE, A, 3), (OTHER, A, 3)), "pair", -1)
        # It goes ahead of apart.
        self.refused(("twice", (ONE, A, 3), (LAST, A, 10)), "pair", -1)

    def test_apart(self):
        self.refused(("twice", (ONE, A, 3), (ONE, B, 10)), "apart", -1)
        self.refused(TWICE, "apart", -1, rule=RULE[:3] + (6,))
        self.refused(TWICE, "apart", -1, rule=RULE[:3] + (1,))
        self.let_by(TWICE, rule=RULE[:3] + (7,))


class TestApart(TwiceCase):
    def test_let_by(self):
        self.let_by(APART, FAR)
        self.let_by(("apart", ()), ())
        self.let_by(("apart", APART[1][:2] + ((LAST, (4, 10)),)), BURNINGS, RULE[:3] + (6,))
        self.let_by(("apart", ((ONE, (0, 7, 14)),)), ((ONE, A, 7), (ONE, B, 14), (ONE, C, 0)))

    def test_pair(self):
        no_pairs = (None, 0, "x", (), [], list(ONE), ONE[::-1], (ANN, ANN), ANN, (ANN, DAN, BOB), (list(ANN), DAN),
                    (EVE, CAT), (ANN, ("elm", "Dan")), True, (DAN, BOB))
        for thing in no_pairs:
            self.refused(("apart", ((thing, (3,)),)), "pair", 0, FAR)
            self.refused(("apart", APART[1][:1] + ((thing, (3,)),)), "pair", 1, FAR)
            self.refused(("apart", APART[1] + ((thing, None),)), "pair", 3, FAR)
            # It goes ahead of days.
            self.refused(("apart", ((thing, None), (thing, None))), "pair", 0, FAR)

    def test_pairs_rise(self):
        rows = APART[1]
        self.refused(("apart", (rows[1], rows[0], rows[2])), "pair", 1, FAR)
        self.refused(("apart", (rows[0], rows[0], rows[1], rows[2])), "pair", 1, FAR)
        self.refused(("apart", rows + (rows[0],)), "pair", 3, FAR)
        self.refused(("apart", rows + (rows[2],)), "pair", 3, FAR)

    def test_days(self):
        rows = APART[1]
        for days in (None, [], (), [3, 10], (3,), (10,), (10, 3), (3, 10, 10), (3, 3, 10), (3, 11), (4, 10),
                     (3, 10, None), (3, "10"), ((3, 10),), (3, (10,)), 3, "x", True):
            self.refused(("apart", ((ONE, days),) + rows[1:]), "days", 0, FAR)
        for days in ((), (3, 3), [3], (True,), (4,), None):
            self.refused(("apart", (rows[0], (OTHER, days), rows[2])), "days", 1, FAR)

    def test_a_truth_is_no_day(self):
        burnings = ((ONE, A, 1),)
        self.let_by(("apart", ((ONE, (1,)),)), burnings)
        self.refused(("apart", ((ONE, (True,)),)), "days", 0, burnings)
        self.refused(("apart", ((ONE, (False, 9)),)), "days", 0, ((ONE, A, 0), (ONE, B, 9)))

    def test_a_day_as_often_as_there_are_burnings(self):
        burnings = ((ONE, A, 5), (ONE, B, 5))
        self.refused(("apart", ((ONE, (5,)),)), "days", 0, burnings)
        self.refused(("apart", ((ONE, (5, 5)),)), "near", (0, 1), burnings)
        self.refused(("apart", ((ONE, (5, 5)),)), "near", (0, 1), burnings, RULE[:3] + (1,))

    def test_near(self):
        rows = APART[1][:2]
        self.refused(("apart", rows + ((LAST, (4, 10)),)), "near", (2, 1))
        self.refused(("apart", rows + ((LAST, (4, 10)),)), "near", (0, 1), rule=RULE[:3] + (8,))
        many = tuple([(ONE, ("elm", 0, number), day) for number, day in enumerate((0, 7, 14, 20, 27, 30))])
        self.refused(("apart", ((ONE, (0, 7, 14, 20, 27, 30)),)), "near", (0, 3), many)
        self.refused(("apart", ((ONE, (0, 7, 14, 20, 27, 30)),)), "near", (0, 5), many, RULE[:3] + (6,))
        self.let_by(("apart", ((ONE, (0, 7, 14, 20, 27, 30)),)), many, RULE[:3] + (3,))

    def test_days_go_ahead_of_near(self):
        self.refused(("apart", APART[1][:2] + ((LAST, (4, 9)),)), "days", 2)

    def test_row_by_row(self):
        # The days of a row go ahead of the pair of the next one, and it ahead of the days behind.
        self.refused(("apart", ((ONE, (3,)), (None, (3,)))), "days", 0, FAR)
        self.refused(("apart", ((ONE, (3, 10)), (ONE, None))), "pair", 1, FAR)
        self.refused(("apart", ((LAST, (4, 10)), (ONE, (3, 10)))), "near", (0, 1))

    def test_few(self):
        rows = APART[1]
        for out in range(3):
            self.refused(("apart", rows[:out] + rows[out + 1:]), "few", out, FAR)
        self.refused(("apart", ()), "few", 0, FAR)
        self.refused(("apart", rows[1:2]), "few", 0, FAR)
        self.refused(("apart", rows[:1]), "few", 1, FAR)
        # It goes behind all rows.
        self.refused(("apart", (rows[1], (LAST, (9,)))), "days", 1, FAR)
        self.refused(("apart", ((LAST, (4, 10)),)), "near", (0, 1))


class TestJustOneWord(TwiceCase):
    def test_any_burnings(self):
        # Whatever is tried, what is let by is so.
        chance = random.Random(55)
        words = []
        for _ in range(300):
            burnings = tuple(sorted({(chance.choice((ONE, OTHER)), chance.choice((A, B)), chance.randrange(30))
                                     for _ in range(4)}))
            days = {pair: tuple(sorted([day for one, _, day in burnings if one == pair])) for pair, _, _ in burnings}
            things = [("apart", tuple(sorted(days.items())))]
            things += [("twice", one, other) for one in burnings for other in burnings]
            let_by = set()
            for thing in things:
                try:
                    let_by.add(lets_twice(RULE, burnings, thing))
                except ValueError:
                    pass
            self.assertEqual(len(let_by), 1)
            words.extend(let_by)
        self.assertGreater(words.count("twice"), 50)
        self.assertGreater(words.count("apart"), 50)


if __name__ == "__main__":
    unittest.main()
