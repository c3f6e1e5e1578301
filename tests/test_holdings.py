import unittest
from itertools import permutations

from samples import ANN, BOB, CAT, DAN, EVE, HANDS
from strangerbench.errors import NoRight
from strangerbench.handpairs import pairs_of
from strangerbench.holdings import burn_bars, burnt, is_mine, row_of

HERE = ((ANN, BOB), (2, 5), "elm", "oak", 1, 12, True)
AWAY = ((ANN, CAT), (0, 1), "oak", "elm", 0, 30, False)
ON_ITS_WAY = ((ANN, DAN), (0, 3), "elm", "oak", 0, 4, False)
NOT_ITS_PLACE = ((DAN, BOB), (0, 3), "oak", "oak", 0, 4, True)
RIGHTS = (3, 9, (HERE, AWAY, ON_ITS_WAY, NOT_ITS_PLACE))
RIGHTS = (3, 9, tuple(sorted(RIGHTS[2])))
FIRST = (0, 0, ())


class TestRows(unittest.TestCase):
    def test_a_row_among_the_rows(self):
        for row in RIGHTS[2]:
            self.assertEqual(row_of(RIGHTS, "elm", row[0]), row)
            self.assertEqual(row_of(rights=RIGHTS, town="oak", pair=row[0]), row)

    def test_no_row_at_home(self):
        told = row_of(RIGHTS, "elm", (EVE, ANN))
        self.assertEqual(told, ((EVE, ANN), (3, 0), "elm", "elm", 0, 9, True))
        self.assertIs(told[6], True)
        self.assertEqual(row_of(FIRST, "oak", (ANN, BOB)), ((ANN, BOB), (0, 0), "oak", "oak", 0, 0, True))

    def test_no_row_elsewhere(self):
        told = row_of(RIGHTS, "elm", (BOB, CAT))
        self.assertEqual(told, ((BOB, CAT), (0, 0), "oak", "oak", 0, 0, False))
        self.assertIs(told[6], False)
        self.assertEqual(row_of(RIGHTS, "ash", (EVE, ANN)), ((EVE, ANN), (0, 0), "elm", "elm", 0, 0, False))

    def test_mine(self):
        self.assertIs(is_mine(RIGHTS, "elm", (ANN, BOB)), True)
        self.assertIs(is_mine(rights=RIGHTS, town="elm", pair=(ANN, CAT)), False)
        self.assertIs(is_mine(RIGHTS, "elm", (ANN, DAN)), False)
        self.assertIs(is_mine(RIGHTS, "elm", (DAN, BOB)), False)
        self.assertIs(is_mine(RIGHTS, "elm", (EVE, DAN)), True)
        self.assertIs(is_mine(RIGHTS, "elm", (BOB, CAT)), False)
        self.assertIs(is_mine(RIGHTS, "oak", (ANN, BOB)), False)


class TestBurning(unittest.TestCase):
    def test_what_bars(self):
        self.assertEqual(burn_bars(RIGHTS, "elm", (ANN, BOB), day=11), 12)
        self.assertIsNone(burn_bars(RIGHTS, "elm", (ANN, BOB), day=12))
        self.assertIsNone(burn_bars(RIGHTS, "elm", (ANN, BOB), day=13))
        self.assertEqual(burn_bars(rights=RIGHTS, town="elm", pair=(ANN, CAT), day=99), "oak")
        self.assertEqual(burn_bars(RIGHTS, "elm", (ANN, DAN), day=99), "elm")
        self.assertEqual(burn_bars(RIGHTS, "elm", (DAN, BOB), day=0), "oak")

    def test_what_bars_without_a_row(self):
        self.assertEqual(burn_bars(RIGHTS, "elm", (EVE, ANN), day=8), 9)
        self.assertIsNone(burn_bars(RIGHTS, "elm", (EVE, ANN), day=9))
        self.assertIsNone(burn_bars(FIRST, "elm", (EVE, ANN), day=0))
        self.assertEqual(burn_bars(RIGHTS, "elm", (BOB, CAT), day=99), "oak")

    def test_the_day_goes_by_name_alone(self):
        with self.assertRaises(TypeError):
            burn_bars(RIGHTS, "elm", (ANN, BOB), 12)
        with self.assertRaises(TypeError):
            burnt(RIGHTS, "elm", (), 12, 7)

    def test_burnt_is_free_a_span_later_and_all_else_stays(self):
        pairs = ((EVE, ANN), (ANN, BOB))
        told = burnt(RIGHTS, "elm", pairs, day=20, span=7)
        wanted = (
            ((EVE, ANN), (3, 0), "elm", "elm", 0, 27, True),
            ON_ITS_WAY,
            ((ANN, BOB), (2, 5), "elm", "oak", 1, 27, True),
            AWAY,
            NOT_ITS_PLACE,
        )
        self.assertEqual(told, (3, 9, wanted))
        self.assertEqual(burnt(rights=RIGHTS, town="elm", pairs=pairs, day=20, span=7), told)
        self.assertIs(type(told), tuple)
        self.assertIs(type(told[2]), tuple)
        self.assertIs(told[2][0][6], True)

    def test_burnt_of_no_pairs(self):
        self.assertEqual(burnt(RIGHTS, "elm", (), day=0, span=7), RIGHTS)
        self.assertEqual(burnt(FIRST, "elm", (), day=0, span=7), FIRST)

    def test_burnt_on_the_very_day_that_it_is_free(self):
        once = burnt(FIRST, "elm", ((EVE, ANN),), day=0, span=7)
        self.assertEqual(burn_bars(once, "elm", (EVE, ANN), day=6), 7)
        again = burnt(once, "elm", ((EVE, ANN),), day=7, span=7)
        self.assertEqual(row_of(again, "elm", (EVE, ANN))[5], 14)
        with self.assertRaises(NoRight) as caught:
            burnt(once, "elm", ((EVE, ANN),), day=6, span=7)
        self.assertEqual((caught.exception.pair, caught.exception.why), ((EVE, ANN), 7))

    def refused(self, pairs, day):
        with self.assertRaises(NoRight) as caught:
            burnt(RIGHTS, "elm", pairs, day=day, span=7)
        return (caught.exception.pair, caught.exception.why)

    def test_the_first_barred_is_refused(self):
        self.assertEqual(self.refused(((EVE, ANN), (ANN, DAN), (ANN, CAT)), 50), ((ANN, DAN), "elm"))
        self.assertEqual(self.refused(((EVE, ANN), (ANN, BOB), (ANN, CAT)), 50), ((ANN, CAT), "oak"))
        self.assertEqual(self.refused(((EVE, ANN), (ANN, BOB), (ANN, CAT)), 11), ((ANN, BOB), 12))
        self.assertEqual(self.refused(((EVE, ANN), (ANN, BOB), (ANN, CAT)), 8), ((EVE, ANN), 9))
        self.assertEqual(self.refused(((BOB, CAT),), 8), ((BOB, CAT), "oak"))

    def test_pair_by_pair_comes_to_the_same(self):
        at_home = (4, 2, ())
        pairs = pairs_of((EVE, ANN, DAN))
        at_once = burnt(at_home, "elm", pairs, day=5, span=3)
        self.assertEqual([row[0] for row in at_once[2]], list(pairs))
        for order in permutations(pairs):
            rights = at_home
            for pair in order:
                rights = burnt(rights, "elm", (pair,), day=5, span=3)
            self.assertEqual(rights, at_once)

    def test_burnt_bars_exactly_what_is_not_burnable(self):
        for pair in pairs_of(HANDS):
            for day in range(40):
                why = burn_bars(RIGHTS, "elm", pair, day=day)
                mine = is_mine(RIGHTS, "elm", pair)
                row = row_of(RIGHTS, "elm", pair)
                self.assertEqual(mine, row[2] == "elm" and row[6])
                self.assertEqual(why, row[2] if not mine else row[5] if row[5] > day else None)
                if why is None:
                    after = burnt(RIGHTS, "elm", (pair,), day=day, span=7)
                    self.assertEqual(row_of(after, "elm", pair), row[:5] + (day + 7, True))
                else:
                    self.assertEqual(self.refused((pair,), day), (pair, why))


if __name__ == "__main__":
    unittest.main()
