import unittest

from samples import ANN, BOB, CAT, DAN, EVE, RULE, all_tuples
from strangerbench.chests import first_chest, risen_chest, saved_of
from strangerbench.giving import given_to
from strangerbench.letterkinds import is_chest, is_letter
from strangerbench.letterscome import came
from strangerbench.roundings import rounded

PAIR = (ANN, BOB)
FRESH = (("ash", 0, 0), ("elm", 0, 0), ("oak", 0, 0))
ROSE = (("ash", 0, 0), ("elm", 1, 9), ("oak", 0, 0))
ASH_ROSE = (("ash", 1, 8), ("elm", 1, 9), ("oak", 0, 0))
SURE = first_chest(RULE, "elm")
WARY = risen_chest(RULE, saved_of(SURE), rise=1, day=9)
NOTE = (("oak", 0, 0), (BOB, CAT), "no")
RIGHTS = (0, 0, (((EVE, CAT), (0, 1), "oak", "ash", 0, 3, True), ((ANN, BOB), (0, 3), "elm", "oak", 0, 20, False)))


class ComeCase(unittest.TestCase):
    def check(self, chest, letter, wanted):
        """What comes of the letter; wanted is the chest, the word and the letters."""
        self.assertIs(is_letter(letter), True)
        before = repr((RULE, chest, letter))
        told = came(RULE, chest, letter)
        self.assertEqual(told, wanted)
        self.assertEqual(came(rule=RULE, chest=chest, letter=letter), told)
        self.assertEqual(repr((RULE, chest, letter)), before)
        self.assertIs(all_tuples(told), True)
        self.assertIs(is_chest(told[0]), True)
        for sent in told[2]:
            self.assertIs(is_letter(sent), True)


def with_tells(chest, *tells):
    """The chest with these tells."""
    return chest[:2] + (tells,) + chest[3:]


def with_rights(chest, rights):
    """The chest with these rights in its book."""
    return (chest[0][:2] + (rights,) + chest[0][3:],) + chest[1:]


class TestGive(ComeCase):
    _, letter = given_to((0, 0, ()), "oak", PAIR, "elm", rise=0)
    here = (0, 0, ((PAIR, (0, 1), "elm", "oak", 0, 0, True),))

    def test_taken(self):
        self.check(SURE, self.letter, (with_rights(SURE, self.here), "taken", ()))

    def test_nothing_the_second_time(self):
        chest, _, _ = came(RULE, SURE, self.letter)
        self.check(chest, self.letter, (chest, "nothing", ()))

    def test_nothing_where_it_is_wary(self):
        self.check(WARY, self.letter, (WARY, "nothing", ()))
        chest = with_tells(WARY, ("oak", RIGHTS, ROSE))
        self.check(chest, self.letter, (chest, "nothing", ()))

    def test_nothing_of_an_elder_rise(self):
        heard = (("ash", 0, 0), ("elm", 0, 0), ("oak", 1, 5))
        chest = (SURE[0], heard, None, (NOTE,))
        self.check(chest, self.letter, (chest, "nothing", ()))
        _, letter = given_to((0, 0, ()), "oak", PAIR, "elm", rise=1)
        told = came(RULE, chest, letter)
        self.assertEqual(told[1:], ("taken", ()))
        self.assertEqual(told[0][1:], chest[1:])

    def test_nothing_of_another_place_or_giver(self):
        row = self.letter[3]
        for letter in (("give", "ash", "elm", row), ("give", "oak", "elm", row[:2] + ("ash",) + row[3:])):
            self.check(SURE, letter, (SURE, "nothing", ()))


class TestNote(ComeCase):
    def test_as_they_came(self):
        other = (("ash", 0, 0), (), "yes")
        chest = SURE
        for note in (NOTE, other, NOTE):
            sender = note[0][0]
            letter = ("note", sender, "elm", note)
            self.check(chest, letter, (chest[:3] + (chest[3] + (note,),), "news", ()))
            chest, _, _ = came(RULE, chest, letter)
        self.assertEqual(chest, SURE[:3] + ((NOTE, other, NOTE),))

    def test_where_it_is_wary(self):
        chest = with_tells(WARY, ("oak", RIGHTS, ROSE))
        self.check(chest, ("note", "oak", "elm", NOTE), (chest[:3] + ((NOTE,),), "news", ()))


class TestAsk(ComeCase):
    def test_told_and_nothing_new_heard(self):
        chest = with_rights(SURE, RIGHTS)
        self.check(chest, ("ask", "oak", "elm", FRESH), (chest, "told", (("tell", "elm", "oak", RIGHTS, FRESH),)))

    def test_it_hears_by_that(self):
        chest = with_rights((SURE[0], (("ash", 2, 7), ("elm", 0, 0), ("oak", 0, 0)), None, (NOTE,)), RIGHTS)
        both = (("ash", 2, 7), ("elm", 0, 0), ("oak", 3, 9))
        self.check(chest, ("ask", "oak", "elm", (("ash", 1, 8), ("elm", 0, 0), ("oak", 3, 9))),
                   ((chest[0], both, None, (NOTE,)), "told", (("tell", "elm", "oak", RIGHTS, both),)))

    def test_wary_or_not(self):
        self.check(WARY, ("ask", "ash", "elm", FRESH), (WARY, "told", (("tell", "elm", "ash", (0, 0, ()), ROSE),)))
        # It learns nothing: its tells stay.
        chest = with_tells(WARY, ("oak", RIGHTS, ROSE))
        self.check(chest, ("ask", "ash", "elm", FRESH), (chest, "told", (("tell", "elm", "ash", (0, 0, ()), ROSE),)))
        # It learns something: its tells are dropped.
        self.check(chest, ("ask", "ash", "elm", (("ash", 1, 8), ("elm", 0, 0), ("oak", 0, 0))),
                   ((WARY[0], ASH_ROSE, (), ()), "told", (("tell", "elm", "ash", (0, 0, ()), ASH_ROSE),)))


class TestTell(ComeCase):
    def test_nothing_where_it_is_not_wary(self):
        self.check(SURE, ("tell", "oak", "elm", RIGHTS, FRESH), (SURE, "nothing", ()))
        # It hears by that all the same, and stays sure.
        self.check(SURE, ("tell", "oak", "elm", RIGHTS, ASH_ROSE), ((SURE[0], ASH_ROSE, None, ()), "nothing", ()))

    def test_counts(self):
        self.check(WARY, ("tell", "oak", "elm", RIGHTS, ROSE), (with_tells(WARY, ("oak", RIGHTS, ROSE)), "counts", ()))
        self.check(WARY, ("tell", "ash", "elm", RIGHTS, ROSE), (with_tells(WARY, ("ash", RIGHTS, ROSE)), "counts", ()))

    def test_late(self):
        self.check(WARY, ("tell", "oak", "elm", RIGHTS, FRESH), (WARY, "late", ()))
        chest = with_tells(WARY, ("oak", RIGHTS, ROSE))
        self.check(chest, ("tell", "ash", "elm", RIGHTS, FRESH), (chest, "late", ()))
        self.check(chest, ("tell", "oak", "elm", RIGHTS, FRESH), (chest, "late", ()))

    def test_it_teaches_something_and_is_late_by_that(self):
        chest = with_tells(WARY, ("oak", RIGHTS, ROSE))
        told = (("ash", 1, 8), ("elm", 0, 0), ("oak", 0, 0))
        for teller in ("ash", "oak"):
            self.check(chest, ("tell", teller, "elm", RIGHTS, told), ((WARY[0], ASH_ROSE, (), ()), "late", ()))

    def test_it_teaches_something_and_counts(self):
        # The tells that came ahead are dropped first, so it is no second one of that town either.
        for teller in ("ash", "oak"):
            chest = with_tells(WARY, ("oak", RIGHTS, ROSE))
            wanted = (WARY[0], ASH_ROSE, ((teller, (0, 0, ()), ASH_ROSE),), ())
            self.check(chest, ("tell", teller, "elm", (0, 0, ()), ASH_ROSE), (wanted, "counts", ()))

    def test_a_later_day_of_a_like_rise_is_news_too(self):
        told = (("ash", 0, 3), ("elm", 1, 9), ("oak", 0, 0))
        chest = with_tells(WARY, ("oak", RIGHTS, ROSE))
        self.check(chest, ("tell", "ash", "elm", RIGHTS, told), ((WARY[0], told, (("ash", RIGHTS, told),), ()), "counts", ()))

    def test_twice(self):
        chest = with_tells(WARY, ("oak", RIGHTS, ROSE))
        for rights in (RIGHTS, (0, 0, ())):
            self.check(chest, ("tell", "oak", "elm", rights, ROSE), (chest, "twice", ()))

    def test_sure(self):
        own = (0, 0, ((PAIR, (0, 2), "oak", "elm", 0, 4, False), ((ANN, DAN), (0, 0), "elm", "elm", 0, 30, True)))
        for first, last in (("ash", "oak"), ("oak", "ash")):
            told = {"ash": (0, 0, ()), "oak": RIGHTS}
            chest = with_tells(with_rights(WARY[:3] + ((NOTE,),), own), (first, told[first], ROSE))
            tells = (("ash", (0, 0, ())), ("elm", own), ("oak", RIGHTS))
            rights = rounded("elm", tells, heard=ROSE, span=7)
            self.assertEqual(rights[:2], (1, 16))
            self.assertEqual(len(rights[2]), 3)
            wanted = (with_rights(WARY, rights)[0], ROSE, None, (NOTE,))
            self.check(chest, ("tell", last, "elm", told[last], ROSE), (wanted, "sure", ()))

    def test_two_towns(self):
        rule = (("elm", "oak"), 3, 2, 7)
        chest = risen_chest(rule, saved_of(first_chest(rule, "elm")), rise=2, day=5)
        heard = (("elm", 2, 5), ("oak", 0, 0))
        behind, word, sent = came(rule, chest, ("tell", "oak", "elm", (0, 0, ()), heard))
        self.assertEqual((behind, word, sent), ((("elm", 2, (2, 12, ()), (), ()), heard, None, ()), "sure", ()))

    def test_heard_of_itself_by_its_stone(self):
        # Others tell of rises of its own that its elder book forgot; its stone knew them all.
        elder = risen_chest(RULE, saved_of(SURE), rise=2, day=30)
        told = (("ash", 0, 0), ("elm", 1, 9), ("oak", 1, 6))
        behind, word, _ = came(RULE, elder, ("tell", "oak", "elm", RIGHTS, told))
        self.assertEqual((behind[1], word), ((("ash", 0, 0), ("elm", 2, 30), ("oak", 1, 6)), "late"))


if __name__ == "__main__":
    unittest.main()
