import random
import unittest
from itertools import combinations
from math import comb

from samples import ANN, BOB, CAT, DAN, EVE, HANDS, RULE
from strangerbench.bounding import bound_of, greatest
from strangerbench.errors import NoMore
from strangerbench.handpairs import pairs_of
from strangerbench.sway import most_of, swayed

A = ("elm", 0, 0)
B = ("elm", 0, 1)
C = ("oak", 0, 0)
D = ("oak", 0, 1)
# The span is 7: the days of A are just less apart, those of D just not.
BURNINGS = tuple(sorted([
    ((EVE, ANN), A, 10), ((ANN, DAN), A, 16),
    ((ANN, BOB), B, 12),
    ((EVE, ANN), C, 30),
    ((EVE, ANN), D, 40), ((ANN, DAN), D, 47),
]))
TABLE = (
    (A, (EVE, ANN, DAN)),
    (B, (ANN, BOB)),
    (C, (EVE, ANN)),
    (C, (EVE, DAN, BOB)),
    (D, (EVE, ANN, DAN)),
)
WIDE = (RULE[0], 5, 3, 7)


def sway_by_looking(rule, table, burnings, hands, day):
    """The roots that the hands sway, by the words of the document."""
    _, _, needed, span = rule
    told = set()
    for root, voices in table:
        days = [then for _, burnt_for, then in burnings if burnt_for == root]
        lies = days and all([day <= then < day + span for then in days])
        if lies and len([hand for hand in voices if hand in hands]) >= needed:
            told.add(root)
    return tuple(sorted(told))


def most_by_looking(rule, table, burnings, hands, last_day):
    """The most and the day, by looking at each day."""
    best = (0, 0)
    for day in range(last_day):
        many = len(sway_by_looking(rule, table, burnings, hands, day))
        if many > best[0]:
            best = (many, day)
    return best


class TestSwayed(unittest.TestCase):
    def test_from_which_day(self):
        self.assertEqual([day for day in range(60) if swayed(RULE, TABLE, BURNINGS, (EVE, ANN), day=day) == (A,)], [10])
        told = {day: swayed(RULE, TABLE, BURNINGS, (ANN, BOB), day=day) for day in range(60)}
        self.assertEqual([day for day in told if told[day] == (B,)], list(range(6, 13)))
        self.assertEqual([day for day in told if told[day] == ()], list(range(6)) + list(range(13, 60)))

    def test_burnings_span_apart_lie_behind_no_day(self):
        for day in range(60):
            self.assertNotIn(D, swayed(RULE, TABLE, BURNINGS, HANDS, day=day))
        wider = RULE[:3] + (8,)
        self.assertEqual(swayed(wider, TABLE, BURNINGS, HANDS, day=40), (D,))

    def test_as_many_as_are_needed(self):
        self.assertEqual(swayed(RULE, TABLE, BURNINGS, (ANN,), day=10), ())
        self.assertEqual(swayed(RULE, TABLE, BURNINGS, (ANN, BOB), day=10), (B,))
        self.assertEqual(swayed(RULE, TABLE, BURNINGS, (ANN, DAN, BOB), day=10), (A, B))
        self.assertEqual(swayed(WIDE, TABLE, BURNINGS, (ANN, DAN, BOB), day=10), ())
        self.assertEqual(swayed(WIDE, TABLE, BURNINGS, HANDS, day=10), (A,))
        self.assertEqual(swayed(rule=RULE, table=TABLE, burnings=BURNINGS, hands=HANDS, day=10), (A, B))
        self.assertIs(type(swayed(RULE, TABLE, BURNINGS, HANDS, day=10)), tuple)

    def test_each_pair_of_a_root_by_itself(self):
        # Dan and Bob sit together in one appeal; Ann and Bob in none.
        self.assertEqual(swayed(RULE, TABLE, BURNINGS, (DAN, BOB), day=30), (C,))
        self.assertEqual(swayed(RULE, TABLE, BURNINGS, (ANN, BOB), day=30), ())
        self.assertEqual(swayed(RULE, TABLE, BURNINGS, (EVE, ANN, DAN), day=30), (C,))

    def test_a_root_without_burnings(self):
        self.assertEqual(swayed(RULE, TABLE, (), HANDS, day=0), ())
        self.assertEqual(swayed(RULE, (), BURNINGS, HANDS, day=10), ())
        self.assertEqual(swayed(RULE, TABLE, BURNINGS, (), day=10), ())

    def test_the_day_goes_by_name_alone(self):
        with self.assertRaises(TypeError):
            swayed(RULE, TABLE, BURNINGS, HANDS, 10)


class TestMostOf(unittest.TestCase):
    def test_the_most_and_the_least_day(self):
        self.assertEqual(most_of(RULE, TABLE, BURNINGS, (EVE, ANN)), (1, 10))
        self.assertEqual(most_of(RULE, TABLE, BURNINGS, (ANN, BOB)), (1, 6))
        self.assertEqual(most_of(RULE, TABLE, BURNINGS, (DAN, BOB)), (1, 24))
        self.assertEqual(most_of(rule=RULE, table=TABLE, burnings=BURNINGS, hands=HANDS), (2, 10))
        self.assertIs(type(most_of(RULE, TABLE, BURNINGS, HANDS)), tuple)

    def test_none(self):
        for told in (most_of(RULE, TABLE, BURNINGS, (EVE, CAT)), most_of(RULE, TABLE, (), HANDS),
                     most_of(RULE, (), (), ()), most_of(RULE, TABLE[4:], BURNINGS, HANDS)):
            self.assertEqual(told, (0, 0))

    def test_no_day_below_0(self):
        self.assertEqual(most_of(RULE, ((A, (EVE, ANN)),), (((EVE, ANN), A, 3),), (EVE, ANN)), (1, 0))
        self.assertEqual(most_of(RULE, ((A, (EVE, ANN)),), (((EVE, ANN), A, 7),), (EVE, ANN)), (1, 1))

    def test_a_root_counts_once(self):
        table = ((A, (EVE, ANN)), (A, (EVE, ANN, DAN)))
        self.assertEqual(most_of(RULE, table, BURNINGS, (EVE, ANN)), (1, 10))

    def some(self, chance):
        """Some table and burnings."""
        roots = [(town, 0, number) for town in ("elm", "oak") for number in range(3)]
        rows = {(root, tuple(sorted(chance.sample(HANDS, chance.randrange(1, 5)))))
                for root in roots for _ in range(chance.randrange(3))}
        burnings = {(chance.choice(pairs_of(HANDS)), chance.choice(roots), chance.randrange(14)) for _ in range(8)}
        return tuple(sorted(rows)), tuple(sorted(burnings))

    def test_against_looking(self):
        chance = random.Random(11)
        for _ in range(150):
            table, burnings = self.some(chance)
            hands = tuple(sorted(chance.sample(HANDS, chance.randrange(6))))
            for day in range(15):
                self.assertEqual(swayed(RULE, table, burnings, hands, day=day),
                                 sway_by_looking(RULE, table, burnings, hands, day))
            self.assertEqual(most_of(RULE, table, burnings, hands),
                             most_by_looking(RULE, table, burnings, hands, 15))

    def test_greatest_against_looking(self):
        chance = random.Random(12)
        for _ in range(60):
            table, burnings = self.some(chance)
            known = sorted({hand for _, hands in table for hand in hands})
            for many in range(7):
                best = None
                for chosen in combinations(known, min(many, len(known))):
                    most, day = most_of(RULE, table, burnings, chosen)
                    if best is None or most > best[0]:
                        best = (most, chosen, day)
                self.assertEqual(greatest(RULE, table, burnings, many), best)


class TestBound(unittest.TestCase):
    def test_the_bound(self):
        self.assertEqual([bound_of(RULE, many) for many in range(6)], [0, 0, 1, 3, 6, 10])
        self.assertEqual([bound_of(WIDE, many) for many in range(8)], [0, 0, 0, 1, 2, 3, 5, 7])
        self.assertEqual(bound_of(rule=((), 5, 5, 1), many=21), 21)
        self.assertEqual(bound_of(RULE, 10 ** 59), 10 ** 59 * (10 ** 59 - 1) // 2)
        self.assertIs(type(bound_of(RULE, 3)), int)

    def test_who_is_paid_sways_no_more(self):
        pairs = pairs_of(HANDS)
        # Each pair has one matter of its own, all on one day.
        table = tuple([(("elm", 0, at), pair) for at, pair in enumerate(pairs)])
        burnings = tuple([(pair, ("elm", 0, at), 3) for at, pair in enumerate(pairs)])
        for many in range(6):
            self.assertEqual(greatest(RULE, table, burnings, many)[0], bound_of(RULE, many))


class TestGreatest(unittest.TestCase):
    def test_the_least_of_the_best(self):
        self.assertEqual(greatest(RULE, TABLE, BURNINGS, 2), (1, (EVE, ANN), 10))
        self.assertEqual(greatest(RULE, TABLE, BURNINGS, 3), (2, (EVE, ANN, BOB), 10))
        self.assertEqual(greatest(rule=RULE, table=TABLE, burnings=BURNINGS, many=3, most=4),
                         (2, (EVE, ANN, BOB), 10))
        self.assertEqual(greatest(RULE, TABLE[1:2], BURNINGS, 2), (1, (ANN, BOB), 6))
        self.assertEqual(greatest(RULE, TABLE, (), 2), (0, (EVE, ANN), 0))
        told = greatest(RULE, TABLE, BURNINGS, 3)
        self.assertIs(type(told), tuple)
        self.assertIs(type(told[1]), tuple)

    def test_more_hands_than_the_table_has(self):
        for many in (4, 5, 100, 10 ** 59):
            self.assertEqual(greatest(RULE, TABLE, BURNINGS, many, most=1), (2, (EVE, ANN, DAN, BOB), 10))
        for many in (0, 1, 7):
            self.assertEqual(greatest(RULE, (), (), many, most=1), (0, (), 0))

    def test_no_hands(self):
        self.assertEqual(greatest(RULE, TABLE, BURNINGS, 0, most=1), (0, (), 0))
        self.assertEqual(greatest(RULE, TABLE, BURNINGS, 1), (0, (EVE,), 0))

    def test_just_as_many_tuples_and_one_fewer(self):
        for many in range(5):
            tuples = comb(4, many)
            greatest(RULE, TABLE, BURNINGS, many, most=tuples)
            with self.assertRaises(NoMore) as caught:
                greatest(RULE, TABLE, BURNINGS, many, most=tuples - 1)
            self.assertEqual(caught.exception.most, tuples - 1)

    def test_a_thousand_where_it_is_left_out(self):
        hands = tuple([("elm", "h" + sign) for sign in "abcdefghijklmn"])
        self.assertEqual(greatest(RULE, ((A, hands[:12]),), (), 6), (0, hands[:6], 0))
        for fewer, many in ((13, 5), (14, 4), (13, 6)):
            table = ((A, hands[:fewer]),)
            with self.assertRaises(NoMore) as caught:
                greatest(RULE, table, (), many)
            self.assertEqual(caught.exception.most, 1000)
        self.assertEqual(greatest(RULE, ((A, hands),), (), 4, most=1001), (0, hands[:4], 0))

    def test_most_goes_by_name_alone(self):
        with self.assertRaises(TypeError):
            greatest(RULE, TABLE, BURNINGS, 3, 4)


if __name__ == "__main__":
    unittest.main()
