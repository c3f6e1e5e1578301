import unittest

from samples import ANN, BOB, CAT, DAN, EVE
from strangerbench.errors import NoRight
from strangerbench.giving import given_to, letter_of, taken
from strangerbench.holdings import is_mine, row_of

PAIR = (ANN, BOB)
FIRST = (0, 0, ())
HEARD = (("ash", 0, 0), ("elm", 0, 0), ("oak", 0, 0))


def refusal(case, act, *things, **more):
    """The pair and the why of the refusal."""
    with case.assertRaises(NoRight) as caught:
        act(*things, **more)
    return (caught.exception.pair, caught.exception.why)


class TestGiven(unittest.TestCase):
    def test_from_home_without_a_row(self):
        told = given_to(FIRST, "oak", PAIR, "elm", rise=0)
        row = (PAIR, (0, 1), "elm", "oak", 0, 0, False)
        self.assertEqual(told, ((0, 0, (row,)), ("give", "oak", "elm", row)))
        self.assertIs(type(told), tuple)
        self.assertIs(type(told[1]), tuple)
        self.assertIs(told[1][3][6], False)

    def test_turn_floor_and_rise(self):
        told = given_to(rights=(3, 25, ()), town="oak", pair=PAIR, to="ash", rise=2)
        row = (PAIR, (3, 1), "ash", "oak", 2, 25, False)
        self.assertEqual(told, ((3, 25, (row,)), ("give", "oak", "ash", row)))

    def test_all_else_stays_whatever_its_free(self):
        other = ((EVE, ANN), (0, 0), "elm", "elm", 0, 3, True)
        later = ((DAN, BOB), (0, 0), "oak", "oak", 0, 3, False)
        rights = (1, 2, (other, (PAIR, (1, 6), "elm", "oak", 4, 999, True), later))
        row = (PAIR, (1, 7), "ash", "elm", 5, 999, False)
        self.assertEqual(given_to(rights, "elm", PAIR, "ash", rise=5),
                         ((1, 2, (other, row, later)), ("give", "elm", "ash", row)))

    def test_not_mine(self):
        away = (0, 0, ((PAIR, (0, 1), "ash", "oak", 0, 0, False),))
        self.assertEqual(refusal(self, given_to, away, "oak", PAIR, "elm", rise=0), (PAIR, "ash"))
        self.assertEqual(refusal(self, given_to, FIRST, "elm", PAIR, "ash", rise=0), (PAIR, "oak"))
        on_its_way = (0, 0, ((PAIR, (0, 1), "elm", "oak", 0, 0, False),))
        self.assertEqual(refusal(self, given_to, on_its_way, "elm", PAIR, "ash", rise=0), (PAIR, "elm"))

    def test_given_once(self):
        rights, _ = given_to(FIRST, "oak", PAIR, "elm", rise=0)
        self.assertIs(is_mine(rights, "oak", PAIR), False)
        self.assertEqual(refusal(self, given_to, rights, "oak", PAIR, "ash", rise=0), (PAIR, "elm"))

    def test_the_rise_goes_by_name_alone(self):
        with self.assertRaises(TypeError):
            given_to(FIRST, "oak", PAIR, "elm", 0)


class TestLetter(unittest.TestCase):
    def test_the_letter_of_what_was_given(self):
        rights, letter = given_to(FIRST, "oak", PAIR, "elm", rise=0)
        self.assertEqual(letter_of(rights, "oak", PAIR), letter)
        self.assertEqual(letter_of(rights=rights, town="oak", pair=PAIR), letter)
        self.assertIs(type(letter_of(rights, "oak", PAIR)), tuple)

    def test_here_is_not_looked_at(self):
        for here in (True, False):
            row = (PAIR, (2, 3), "ash", "elm", 1, 5, here)
            self.assertEqual(letter_of((0, 0, (row,)), "elm", PAIR), ("give", "elm", "ash", row))

    def test_another_giver(self):
        row = (PAIR, (0, 1), "ash", "oak", 0, 5, False)
        self.assertEqual(refusal(self, letter_of, (0, 0, (row,)), "elm", PAIR), (PAIR, "ash"))
        self.assertEqual(refusal(self, letter_of, FIRST, "elm", PAIR), (PAIR, "oak"))

    def test_the_place_is_this_town(self):
        for here in (True, False):
            row = (PAIR, (0, 1), "elm", "elm", 0, 5, here)
            self.assertEqual(refusal(self, letter_of, (0, 0, (row,)), "elm", PAIR), (PAIR, "elm"))
        self.assertEqual(refusal(self, letter_of, FIRST, "oak", PAIR), (PAIR, "oak"))
        # Both are so: the giver another one, the place this town.
        row = (PAIR, (0, 1), "elm", "oak", 0, 5, True)
        self.assertEqual(refusal(self, letter_of, (0, 0, (row,)), "elm", PAIR), (PAIR, "elm"))


class TestTaken(unittest.TestCase):
    row = (PAIR, (0, 1), "elm", "oak", 0, 12, False)
    letter = ("give", "oak", "elm", row)

    def test_taken_without_a_row(self):
        told = taken(FIRST, "elm", self.letter, heard=HEARD)
        self.assertEqual(told, (0, 0, ((PAIR, (0, 1), "elm", "oak", 0, 12, True),)))
        self.assertIs(told[2][0][6], True)
        self.assertEqual(taken(rights=FIRST, town="elm", letter=self.letter, heard=HEARD), told)

    def test_the_greater_free_of_both(self):
        for free, wanted in ((11, 12), (12, 12), (30, 30)):
            own = (PAIR, (0, 0), "oak", "oak", 0, free, False)
            told = taken((4, 2, (own,)), "elm", self.letter, heard=HEARD)
            self.assertEqual(told, (4, 2, ((PAIR, (0, 1), "elm", "oak", 0, wanted, True),)))

    def test_a_free_of_no_row(self):
        # At its home a right without a row has the floor as its free.
        letter = ("give", "elm", "oak", (PAIR, (3, 0), "oak", "elm", 0, 12, False))
        told = taken((2, 40, ()), "oak", letter, heard=HEARD)
        self.assertEqual(told, (2, 40, ((PAIR, (3, 0), "oak", "elm", 0, 40, True),)))
        letter = ("give", "elm", "oak", (PAIR, (2, 0), "oak", "elm", 0, 12, False))
        self.assertEqual(taken((2, 40, ()), "oak", letter, heard=HEARD), (2, 40, ()))

    def test_other_rows_stay(self):
        before = ((EVE, ANN), (0, 0), "elm", "elm", 0, 3, True)
        behind = ((ANN, CAT), (0, 4), "oak", "elm", 0, 3, False)
        told = taken((0, 0, (before, behind)), "elm", self.letter, heard=HEARD)
        self.assertEqual(told, (0, 0, (before, (PAIR, (0, 1), "elm", "oak", 0, 12, True), behind)))

    def test_here_is_not_looked_at(self):
        told = taken(FIRST, "elm", ("give", "oak", "elm", self.row[:6] + (True,)), heard=HEARD)
        self.assertEqual(told, taken(FIRST, "elm", self.letter, heard=HEARD))

    def test_twice_or_late(self):
        once = taken(FIRST, "elm", self.letter, heard=HEARD)
        self.assertEqual(taken(once, "elm", self.letter, heard=HEARD), once)
        back, _ = given_to(once, "elm", PAIR, "oak", rise=0)
        self.assertEqual(taken(back, "elm", self.letter, heard=HEARD), back)

    def test_a_stamp_that_is_no_greater(self):
        for stamp, is_taken in (((0, 1), False), ((0, 2), False), ((1, 0), False), ((0, 0), True)):
            own = (PAIR, stamp, "oak", "oak", 0, 0, False)
            told = taken((0, 0, (own,)), "elm", self.letter, heard=HEARD)
            self.assertEqual(is_mine(told, "elm", PAIR), is_taken)
            if not is_taken:
                self.assertEqual(told, (0, 0, (own,)))

    def test_a_greater_turn_goes_ahead_of_the_number(self):
        own = (PAIR, (1, 9), "oak", "oak", 0, 0, False)
        letter = ("give", "oak", "elm", (PAIR, (2, 0), "elm", "oak", 0, 0, False))
        told = taken((0, 0, (own,)), "elm", letter, heard=HEARD)
        self.assertEqual(row_of(told, "elm", PAIR), (PAIR, (2, 0), "elm", "oak", 0, 0, True))

    def nothing(self, letter, heard=HEARD, town="elm"):
        own = (0, 0, ((PAIR, (0, 0), "oak", "oak", 0, 3, False),))
        self.assertEqual(taken(own, town, letter, heard=heard), own)

    def test_to_another_town(self):
        self.nothing(self.letter, town="ash")
        self.nothing(("give", "oak", "ash", self.row))
        self.nothing(("give", "oak", "elm", (PAIR, (0, 1), "ash", "oak", 0, 12, False)))
        self.nothing(("give", "oak", "ash", (PAIR, (0, 1), "ash", "oak", 0, 12, False)))

    def test_from_another_town(self):
        self.nothing(("give", "ash", "elm", self.row))
        self.nothing(("give", "elm", "elm", self.row))

    def test_the_rise_of_the_giver(self):
        for rise, is_taken in ((0, False), (1, False), (2, True), (3, True)):
            letter = ("give", "oak", "elm", (PAIR, (0, 1), "elm", "oak", rise, 12, False))
            told = taken(FIRST, "elm", letter, heard=(("ash", 9, 9), ("elm", 9, 9), ("oak", 2, 50)))
            self.assertEqual(is_mine(told, "elm", PAIR), is_taken)
            if is_taken:
                self.assertEqual(told[2][0][4], rise)
            else:
                self.assertEqual(told, FIRST)

    def test_a_giver_that_nobody_heard_of(self):
        told = taken(FIRST, "elm", self.letter, heard=(("elm", 9, 9),))
        self.assertIs(is_mine(told, "elm", PAIR), True)

    def test_heard_goes_by_name_alone(self):
        with self.assertRaises(TypeError):
            taken(FIRST, "elm", self.letter, HEARD)


if __name__ == "__main__":
    unittest.main()
