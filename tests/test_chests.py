import unittest

from samples import ANN, BOB, CAT, DAN, EVE, RULE, all_tuples, refusal
from strangerbench.chests import first_chest, risen_chest, saved_of
from strangerbench.holdings import row_of
from strangerbench.letterkinds import is_chest
from strangerbench.matterdeeds import laid, opened, risen
from strangerbench.matterkinds import first_book
from strangerbench.roundings import rounded

ALONE = (("elm",), 3, 2, 7)
NOTES = ((("oak", 0, 0), (), "yes"), (("ash", 0, 0), (CAT,), "no"))
HEARD = (("ash", 2, 9), ("elm", 1, 3), ("oak", 0, 0))
BOOK = opened(RULE, laid(opened(RULE, first_book("elm"), (EVE, ANN), day=2), ("elm", 0, 0)), (DAN,), day=3)
CHEST = (BOOK, HEARD, (("oak", (0, 0, ()), HEARD),), NOTES)


class TestFirstChest(unittest.TestCase):
    def test_each_town(self):
        for town in RULE[0]:
            told = first_chest(RULE, town)
            self.assertEqual(told, (first_book(town), (("ash", 0, 0), ("elm", 0, 0), ("oak", 0, 0)), None, ()))
            self.assertEqual(first_chest(rule=RULE, town=town), told)
            self.assertIs(is_chest(told), True)
            self.assertIs(all_tuples(told), True)
        self.assertEqual(first_chest(ALONE, "elm")[1], (("elm", 0, 0),))

    def test_a_town_of_no_rule(self):
        for town in ("fir", "el", "elmm"):
            self.assertEqual(refusal(first_chest, RULE, town), ("NoTown", town))
        self.assertEqual(refusal(first_chest, ALONE, "oak"), ("NoTown", "oak"))


class TestSavedOf(unittest.TestCase):
    def test_all_but_the_tells(self):
        self.assertEqual(saved_of(CHEST), (BOOK, HEARD, NOTES))
        self.assertEqual(saved_of(chest=CHEST), (BOOK, HEARD, NOTES))
        self.assertEqual(saved_of(first_chest(RULE, "oak")), (first_book("oak"), first_chest(RULE, "oak")[1], ()))
        self.assertIs(all_tuples(saved_of(CHEST)), True)


class TestRisenChest(unittest.TestCase):
    def test_risen(self):
        told = risen_chest(RULE, saved_of(CHEST), rise=4, day=20)
        heard = (("ash", 2, 9), ("elm", 4, 20), ("oak", 0, 0))
        self.assertEqual(told, (risen(BOOK, rise=4), heard, (), NOTES))
        self.assertEqual(risen_chest(rule=RULE, saved=saved_of(CHEST), rise=4, day=20), told)
        self.assertEqual([matter[6] for matter in told[0][3]], ["laid", "broken"])
        self.assertIs(is_chest(told), True)
        self.assertIs(all_tuples(told), True)

    def test_with_an_elder_book(self):
        # What was heard later is forgotten with the book; how often it rose itself is told anew.
        elder = saved_of(first_chest(RULE, "elm"))
        told = risen_chest(RULE, elder, rise=3, day=20)
        self.assertEqual(told, (risen(first_book("elm"), rise=3), (("ash", 0, 0), ("elm", 3, 20), ("oak", 0, 0)), (), ()))

    def test_a_day_ahead_of_one_that_was_heard(self):
        told = risen_chest(RULE, saved_of(CHEST), rise=2, day=0)
        self.assertEqual(told[1], (("ash", 2, 9), ("elm", 2, 0), ("oak", 0, 0)))

    def test_one_town_alone(self):
        book = opened(ALONE, first_book("elm"), (ANN, DAN), day=2)
        told = risen_chest(ALONE, (book, (("elm", 0, 0),), NOTES), rise=1, day=4)
        heard = (("elm", 1, 4),)
        rights = rounded("elm", (("elm", book[2]),), heard=heard, span=7)
        self.assertEqual(rights, (1, 11, (((ANN, DAN), (1, 0), "elm", "elm", 1, 11, True),)))
        self.assertEqual(told, (risen(book, rise=1)[:2] + (rights,) + risen(book, rise=1)[3:], heard, None, NOTES))
        self.assertIs(is_chest(told), True)
        # What has no row is free from the floor on.
        self.assertEqual(row_of(told[0][2], "elm", (EVE, ANN))[5], 11)
        again = risen_chest(ALONE, saved_of(told), rise=2, day=30)
        self.assertEqual(again[0][2], (2, 37, (((ANN, DAN), (2, 0), "elm", "elm", 2, 37, True),)))

    def test_with_two_towns_the_round_goes_on(self):
        rule = (("elm", "oak"), 3, 2, 7)
        told = risen_chest(rule, saved_of(first_chest(rule, "oak")), rise=1, day=4)
        self.assertEqual(told, (risen(first_book("oak"), rise=1), (("elm", 0, 0), ("oak", 1, 4)), (), ()))

    def test_rise_and_day_go_by_name_alone(self):
        with self.assertRaises(TypeError):
            risen_chest(RULE, saved_of(CHEST), 4, 20)


class TestPlaces(unittest.TestCase):
    def test_the_row_of_a_pair_elsewhere_stays(self):
        row = ((ANN, BOB), (0, 1), "elm", "oak", 0, 5, True)
        book = ("elm", 0, (0, 0, (row,)), (), ())
        told = risen_chest(RULE, (book, HEARD, ()), rise=2, day=4)
        self.assertEqual(told[0][2], (0, 0, (row,)))


if __name__ == "__main__":
    unittest.main()
