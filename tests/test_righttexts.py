import unittest

from samples import ANN, BOB, CAT, DAN, EVE
from strangerbench.giving import given_to, taken
from strangerbench.holdings import burnt
from strangerbench.righttexts import rights_text

BIG = 10 ** 60 - 1


class TestRightsText(unittest.TestCase):
    def test_without_rows(self):
        self.assertEqual(rights_text((0, 0, ())), "0 0")
        self.assertEqual(rights_text((3, 12, ())), "3 12")
        self.assertEqual(rights_text(rights=(10, 100, ())), "10 100")
        self.assertIs(type(rights_text((0, 0, ()))), str)

    def test_the_example(self):
        row = ((ANN, BOB), (0, 1), "elm", "oak", 0, 12, True)
        self.assertEqual(rights_text((2, 5, (row,))), "2 5\nelm.ann oak.bob 0 1 elm oak 0 12 here")

    def test_rows_here_and_away(self):
        rows = (
            ((EVE, ANN), (0, 0), "elm", "ash", 1, 2, True),
            ((ANN, DAN), (3, 4), "oak", "elm", 5, 6, False),
            ((BOB, CAT), (7, 8), "ash", "oak", 9, 10, False),
        )
        rights = (1, 20, rows)
        self.assertEqual(rights_text(rights).split("\n"), [
            "1 20",
            "ash.eve elm.ann 0 0 elm ash 1 2 here",
            "elm.ann elm.dan 3 4 oak elm 5 6 away",
            "oak.bob oak.cat 7 8 ash oak 9 10 away",
        ])
        self.assertEqual(rights, (1, 20, rows))

    def test_numbers_of_sixty_figures(self):
        row = ((ANN, BOB), (BIG, BIG - 1), "elm", "oak", BIG - 2, BIG - 3, False)
        self.assertEqual(
            rights_text((BIG, BIG, (row,))),
            f"{'9' * 60} {'9' * 60}\nelm.ann oak.bob {'9' * 60} {'9' * 59}8 elm oak {'9' * 59}7 {'9' * 59}6 away",
        )

    def test_behind_giving_and_taking(self):
        rights, letter = given_to((0, 0, ()), "oak", (ANN, BOB), "elm", rise=0)
        self.assertEqual(rights_text(rights), "0 0\nelm.ann oak.bob 0 1 elm oak 0 0 away")
        there = burnt(taken((0, 0, ()), "elm", letter, heard=(("oak", 0, 0),)), "elm", ((ANN, BOB),), day=5, span=7)
        self.assertEqual(rights_text(there), "0 0\nelm.ann oak.bob 0 1 elm oak 0 12 here")


if __name__ == "__main__":
    unittest.main()
