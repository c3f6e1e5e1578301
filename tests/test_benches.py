import copy
import unittest
from itertools import combinations

from samples import ANN, ANY_THINGS, BOB, CAT, DAN, EVE, HANDS
from strangerbench import benches
from strangerbench.benches import MOST, benches_of, call_at, is_call, unfree
from strangerbench.handpairs import pairs_of
from strangerbench.holdings import burn_bars

MANY = tuple([("elm", "h" + "abcdefghijklmnopqrstuvwxyz"[at // 26] + "abcdefghijklmnopqrstuvwxyz"[at % 26])
              for at in range(40)])
CALL = (HANDS, ((EVE, ANN), (ANN, DAN), (ANN, BOB)), 3)


def benches_by_trying(call):
    """All benches, by looking at all so many hands."""
    hands, free, seats = call
    return tuple([chosen for chosen in combinations(hands, seats)
                  if all([pair in free for pair in combinations(chosen, 2)])])


class TestIsCall(unittest.TestCase):
    def check(self, thing, told):
        before = copy.deepcopy(thing)
        self.assertIs(is_call(thing), told, thing)
        self.assertIs(is_call(thing=thing), told)
        self.assertEqual(thing, before)

    def test_calls(self):
        for thing in (CALL, ((), (), 2), (HANDS, (), 5), (HANDS, pairs_of(HANDS), 4), (MANY, pairs_of(MANY), 3)):
            self.check(thing, True)

    def test_seats(self):
        for seats in (2, 3, 4, 5):
            self.check((HANDS, (), seats), True)
        for seats in (1, 6, 0, -2, True, False, None, "3", (3,), [3], 10 ** 59):
            self.check((HANDS, (), seats), False)

    def test_hands(self):
        for hands in (None, [], list(HANDS), HANDS[::-1], (ANN, ANN), (BOB, ANN), (list(ANN), BOB), ANN, (ANN, None),
                      "elm", (ANN, "oak"), (ANN, BOB, BOB)):
            self.check((hands, (), 3), False)

    def test_free(self):
        pairs = pairs_of(HANDS)
        for free in (None, [], list(pairs), pairs[::-1], (pairs[0], pairs[0]), (pairs[1], pairs[0]), pairs[0],
                     ((BOB, ANN),), ((ANN, ANN),), ([ANN, BOB],), (None,), (ANN,), pairs + (("fir", "abe"), CAT),
                     (pairs[0], None)):
            self.check((HANDS, free, 3), False)
        self.check(((ANN, BOB), ((ANN, BOB),), 3), True)
        self.check(((ANN, BOB), ((ANN, CAT),), 3), False)
        self.check(((ANN, BOB), ((EVE, ANN),), 3), False)
        self.check(((), ((ANN, CAT),), 3), False)

    def test_any_things(self):
        for thing in ANY_THINGS:
            self.check(thing, False)
        for thing in (list(CALL), CALL[:2], CALL + (0,)):
            self.check(thing, False)


class TestBenches(unittest.TestCase):
    def test_most(self):
        self.assertEqual(MOST, 35)
        self.assertIs(type(benches.MOST), int)

    def test_two_seats_are_the_free_pairs(self):
        self.assertEqual(benches_of((HANDS, CALL[1], 2)), CALL[1])

    def test_a_bench_that_lacks_just_one_pair(self):
        pairs = pairs_of((EVE, ANN, DAN))
        self.assertEqual(benches_of((HANDS, pairs, 3)), ((EVE, ANN, DAN),))
        for at in range(3):
            self.assertEqual(benches_of((HANDS, pairs[:at] + pairs[at + 1:], 3)), ())
        four = pairs_of((EVE, ANN, DAN, CAT))
        self.assertEqual(benches_of((HANDS, four, 4)), ((EVE, ANN, DAN, CAT),))
        for at in range(6):
            lacking = four[:at] + four[at + 1:]
            self.assertEqual(benches_of((HANDS, lacking, 4)), ())
            self.assertEqual(len(benches_of((HANDS, lacking, 3))), 2)

    def test_all_benches_rise(self):
        seven = MANY[:7]
        self.assertEqual(benches_of(call=(seven, pairs_of(seven), 3)), tuple(combinations(seven, 3)))
        told = benches_of((HANDS, pairs_of(HANDS), 5))
        self.assertEqual(told, (HANDS,))
        self.assertIs(type(told), tuple)
        self.assertIs(type(told[0]), tuple)

    def test_fewer_hands_than_seats(self):
        self.assertEqual(benches_of(((), (), 2)), ())
        self.assertEqual(benches_of(((ANN,), (), 2)), ())
        self.assertEqual(benches_of((HANDS[:4], pairs_of(HANDS[:4]), 5)), ())

    def test_against_trying(self):
        nine = MANY[:9]
        pairs = pairs_of(nine)
        for step in range(2, 9):
            for start in range(step):
                free = tuple([pair for at, pair in enumerate(pairs) if at % step != start])
                for seats in (2, 3, 4, 5):
                    call = (nine, free, seats)
                    self.assertEqual(benches_of(call), benches_by_trying(call))


class TestUnfree(unittest.TestCase):
    def test_pairs_that_are_not_free(self):
        self.assertEqual(unfree(CALL, (ANN, EVE)), ())
        self.assertEqual(unfree(CALL, (BOB, ANN, EVE)), ((EVE, BOB),))
        self.assertEqual(unfree(call=CALL, hands=(CAT, BOB, DAN)), ((DAN, BOB), (DAN, CAT), (BOB, CAT)))

    def test_hands_that_are_none_of_the_call(self):
        abe = ("fir", "abe")
        self.assertEqual(unfree(CALL, (abe, ANN, EVE)), ((EVE, abe), (ANN, abe)))

    def test_no_pairs(self):
        self.assertEqual(unfree(CALL, ()), ())
        self.assertEqual(unfree(CALL, (CAT,)), ())
        self.assertEqual(unfree((HANDS, pairs_of(HANDS), 3), HANDS), ())
        self.assertEqual(unfree((HANDS, (), 3), HANDS), pairs_of(HANDS))
        self.assertIs(type(unfree(CALL, HANDS)), tuple)

    def test_forty_hands(self):
        call = (MANY, pairs_of(MANY)[1:], 5)
        self.assertIs(is_call(call), True)
        self.assertEqual(unfree(call, MANY), ((MANY[0], MANY[1]),))
        self.assertEqual(len(unfree((MANY, (), 5), MANY[::-1])), 780)


class TestCallAt(unittest.TestCase):
    rows = (
        ((EVE, ANN), (0, 1), "oak", "elm", 0, 0, False),
        ((ANN, DAN), (0, 0), "elm", "elm", 0, 12, True),
        ((ANN, BOB), (0, 1), "elm", "oak", 0, 9, True),
        ((ANN, CAT), (0, 1), "elm", "oak", 0, 9, False),
    )
    rights = (1, 5, rows)

    def test_just_what_can_be_burnt(self):
        told = call_at(self.rights, "elm", HANDS, day=11, seats=3)
        self.assertEqual(told, (HANDS, ((EVE, DAN), (ANN, BOB)), 3))
        self.assertIs(is_call(told), True)
        told = call_at(rights=self.rights, town="elm", hands=HANDS, day=12, seats=4)
        self.assertEqual(told, (HANDS, ((EVE, DAN), (ANN, DAN), (ANN, BOB)), 4))
        self.assertEqual(call_at(self.rights, "elm", HANDS, day=8, seats=2), (HANDS, ((EVE, DAN),), 2))
        self.assertEqual(call_at(self.rights, "elm", HANDS, day=4, seats=2), (HANDS, (), 2))
        self.assertEqual(call_at(self.rights, "elm", HANDS, day=5, seats=2), (HANDS, ((EVE, DAN),), 2))

    def test_by_what_bars(self):
        for day in range(20):
            free = call_at(self.rights, "elm", HANDS, day=day, seats=2)[1]
            for pair in pairs_of(HANDS):
                self.assertEqual(pair in free, burn_bars(self.rights, "elm", pair, day=day) is None)

    def test_few_hands(self):
        self.assertEqual(call_at(self.rights, "elm", (), day=50, seats=2), ((), (), 2))
        self.assertEqual(call_at(self.rights, "elm", (ANN,), day=50, seats=5), ((ANN,), (), 5))

    def test_by_name_alone(self):
        with self.assertRaises(TypeError):
            call_at(self.rights, "elm", HANDS, 11, 3)


if __name__ == "__main__":
    unittest.main()
