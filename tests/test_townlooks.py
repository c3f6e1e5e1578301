import unittest

from samples import ANN, BOB, CAT, DAN, EVE
from strangerbench.townlooks import held_twice, mine_at

PAIR = (ANN, BOB)


def row(pair, place, here):
    """A row of the pair that tells just where it is."""
    return (pair, (0, 1), place, "oak", 0, 5, here)


TELLS = (
    ("ash", (0, 0, (row((EVE, ANN), "ash", True), row((ANN, BOB), "ash", True)))),
    ("elm", (0, 0, (row((ANN, BOB), "elm", True), row((ANN, CAT), "elm", False)))),
    ("oak", (0, 0, (row((EVE, ANN), "elm", False), row((ANN, CAT), "elm", True)))),
)


class TestMineAt(unittest.TestCase):
    def test_by_rows_and_without(self):
        self.assertEqual(mine_at(TELLS, (ANN, BOB)), ("ash", "elm", "oak"))
        self.assertEqual(mine_at(TELLS, (EVE, ANN)), ("ash", "elm"))
        self.assertEqual(mine_at(tells=TELLS, pair=(ANN, CAT)), ())
        self.assertEqual(mine_at(TELLS, (DAN, BOB)), ("oak",))
        self.assertEqual(mine_at(TELLS[:1], (DAN, BOB)), ())
        self.assertEqual(mine_at(TELLS[1:2], (EVE, DAN)), ("elm",))
        self.assertIs(type(mine_at(TELLS, PAIR)), tuple)


class TestHeldTwice(unittest.TestCase):
    def test_nobody_wary(self):
        told = held_twice(TELLS)
        self.assertEqual(told, (((EVE, ANN), ("ash", "elm")), ((ANN, BOB), ("ash", "elm", "oak"))))
        self.assertIs(type(told), tuple)
        self.assertEqual(held_twice(TELLS, wary=()), told)
        self.assertEqual(held_twice(tells=TELLS, wary=()), told)

    def test_wary_towns(self):
        self.assertEqual(held_twice(TELLS, wary=("elm",)), (((ANN, BOB), ("ash", "oak")),))
        self.assertEqual(held_twice(TELLS, wary=("oak",)), (((EVE, ANN), ("ash", "elm")), ((ANN, BOB), ("ash", "elm"))))
        self.assertEqual(held_twice(TELLS, wary=("oak", "ash")), ())
        self.assertEqual(held_twice(TELLS, wary=("fir",)), held_twice(TELLS))

    def test_a_row_that_just_a_wary_town_has(self):
        # The others hold it by what has no row; the row is told by the wary one alone.
        tells = (
            ("ash", (0, 0, (row((EVE, DAN), "fir", False),))),
            ("elm", (0, 0, ())),
            ("oak", (0, 0, (row((EVE, DAN), "oak", True),))),
        )
        self.assertEqual(held_twice(tells, wary=("ash",)), (((EVE, DAN), ("elm", "oak")),))

    def test_none(self):
        self.assertEqual(held_twice((("elm", (0, 0, ())), ("oak", (0, 0, ())))), ())
        self.assertEqual(held_twice(TELLS[:1]), ())

    def test_wary_goes_by_name_alone(self):
        with self.assertRaises(TypeError):
            held_twice(TELLS, ("elm",))


if __name__ == "__main__":
    unittest.main()
