import random
import unittest

from noted import A, B, C, X
from samples import ANN, BOB, CAT, DAN, EVE, HANDS, RULE, all_tuples
from strangerbench.handpairs import pairs_of
from strangerbench.twice import twice_paper
from strangerbench.twicechecker import lets_twice

SPAN = RULE[3]
ONE, OTHER = (ANN, DAN), (ANN, BOB)


class TestTwicePaper(unittest.TestCase):
    def tell(self, burnings, rule=RULE):
        """What is told: it is let by, and its word is right."""
        burnings = tuple(sorted(burnings))
        before = repr((rule, burnings))
        told = twice_paper(rule, burnings)
        self.assertEqual(lets_twice(rule, burnings, told), told[0])
        near = [(one, other) for one in burnings for other in burnings
                if one < other and one[0] == other[0] and abs(one[2] - other[2]) < rule[3]]
        self.assertEqual(told[0], "twice" if near else "apart")
        if near:
            self.assertIn(told[1:], near)
        again = twice_paper(rule=rule, burnings=burnings)
        self.assertEqual(lets_twice(rule, burnings, again), told[0])
        self.assertIs(all_tuples(told), True)
        self.assertEqual(repr((rule, burnings)), before)
        return told

    def test_none(self):
        self.assertEqual(self.tell(()), ("apart", ()))

    def test_apart(self):
        self.assertEqual(self.tell([(ONE, A, 3)]), ("apart", ((ONE, (3,)),)))
        self.assertEqual(self.tell([(ONE, A, 3), (OTHER, A, 3), ((EVE, CAT), X, 3)]),
                         ("apart", (((EVE, CAT), (3,)), (ONE, (3,)), (OTHER, (3,)))))

    def test_just_a_span(self):
        self.assertEqual(self.tell([(ONE, A, 3), (ONE, B, 10)]), ("apart", ((ONE, (3, 10)),)))
        self.assertEqual(self.tell([(ONE, A, 3), (ONE, B, 9)]), ("twice", (ONE, A, 3), (ONE, B, 9)))
        for span in (1, 2, 30):
            rule = RULE[:3] + (span,)
            self.assertEqual(self.tell([(ONE, A, 0), (ONE, B, span)], rule), ("apart", ((ONE, (0, span)),)))
            self.assertEqual(self.tell([(ONE, A, 0), (ONE, B, span - 1)], rule)[0], "twice")

    def test_on_one_day(self):
        self.assertEqual(self.tell([(ONE, A, 5), (ONE, B, 5)]), ("twice", (ONE, A, 5), (ONE, B, 5)))
        # A span of one day: a day once.
        self.assertEqual(self.tell([(ONE, A, 5), (ONE, B, 5)], RULE[:3] + (1,))[0], "twice")

    def test_for_one_root(self):
        self.assertEqual(self.tell([(ONE, A, 5), (ONE, A, 8)]), ("twice", (ONE, A, 5), (ONE, A, 8)))
        self.assertEqual(self.tell([(ONE, A, 5), (ONE, A, 12)]), ("apart", ((ONE, (5, 12)),)))

    def test_the_lesser_one_first(self):
        # It is the lesser by its root, though its day is later.
        self.assertEqual(self.tell([(ONE, A, 9), (ONE, B, 5)]), ("twice", (ONE, A, 9), (ONE, B, 5)))

    def test_days_rise_whatever_the_roots(self):
        told = self.tell([(ONE, A, 100), (ONE, B, 0), (ONE, C, 50), (ONE, X, 9)])
        self.assertEqual(told, ("apart", ((ONE, (0, 9, 50, 100)),)))

    def test_of_unlike_pairs(self):
        self.assertEqual(self.tell([(ONE, A, 5), (OTHER, B, 5)])[0], "apart")
        told = self.tell([(ONE, A, 5), (OTHER, B, 5), (OTHER, C, 11)])
        self.assertEqual(told, ("twice", (OTHER, B, 5), (OTHER, C, 11)))

    def test_any_burnings(self):
        chance = random.Random(54)
        pairs, words = pairs_of(HANDS), []
        for _ in range(300):
            many = chance.choice((2, 6, 12))
            burnings = {(chance.choice(pairs), chance.choice((A, B, C, X)), chance.randrange(200)) for _ in range(many)}
            words.append(self.tell(burnings, RULE[:3] + (chance.choice((1, 7, 40)),))[0])
        self.assertGreater(words.count("twice"), 50)
        self.assertGreater(words.count("apart"), 50)

    def test_no_days_twice_within_a_span_of_many(self):
        burnings = [(ONE, ("elm", 0, number), number * SPAN) for number in range(30)]
        self.assertEqual(self.tell(burnings), ("apart", ((ONE, tuple(range(0, 30 * SPAN, SPAN))),)))
        for at in range(30):
            near = burnings[:at] + [(ONE, ("elm", 0, at), at * SPAN + 1)] + burnings[at + 1:]
            self.assertEqual(self.tell(near)[0], "twice" if at < 29 else "apart")


if __name__ == "__main__":
    unittest.main()
