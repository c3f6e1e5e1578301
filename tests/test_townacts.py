import unittest

from samples import ANN, BOB, CAT, DAN, EVE, RULE, all_tuples, refusal
from strangerbench.chests import first_chest, risen_chest, saved_of
from strangerbench.giving import given_to, letter_of
from strangerbench.letterkinds import is_act, is_chest, is_letter
from strangerbench.matterdeeds import laid, left, opened, seated, voted
from strangerbench.notes import note_of, read
from strangerbench.townacts import acted

A, B, C = [("elm", 0, number) for number in range(3)]
NOBODY = ("elm", 7, 7)
OAK = ("oak", 0, 0)
HEARD = (("ash", 0, 0), ("elm", 0, 0), ("oak", 2, 9))
NEWS = ((OAK, (ANN, DAN), "no"), (("oak", 1, 0), (), "yes"), (OAK, (DAN,), "yes"))
PAIR = (ANN, DAN)


def ended_book():
    """A book with a verdict, and with a matter that is open, in which Ann sits."""
    book = opened(RULE, first_chest(RULE, "elm")[0], (EVE, ANN), day=0)
    for hand in (EVE, ANN):
        book = voted(RULE, book, A, hand)
    return opened(RULE, book, (ANN,), day=1)


BOOK = ended_book()
CHEST = (BOOK, HEARD, None, NEWS)
TELLS = (("oak", (0, 0, ()), HEARD),)
# The very same, but wary.
WARY = (BOOK, HEARD, TELLS, NEWS)


class ActCase(unittest.TestCase):
    def check(self, chest, act, wanted, day=3):
        """What the act tells; wanted is the chest, what is told, and the letters."""
        self.assertIs(is_act(act), True)
        before = repr((RULE, chest, act))
        told = acted(RULE, chest, act, day=day)
        self.assertEqual(told, wanted)
        self.assertEqual(acted(rule=RULE, chest=chest, act=act, day=day), told)
        self.assertEqual(repr((RULE, chest, act)), before)
        self.assertIs(all_tuples(told), True)
        self.assertIs(is_chest(told[0]), True)
        for letter in told[2]:
            self.assertIs(is_letter(letter), True)

    def refused(self, chest, act, wanted, day=3):
        self.assertEqual(refusal(acted, RULE, chest, act, day=day), wanted)

    def with_book(self, chest, book):
        return (book,) + chest[1:]


class TestDeeds(ActCase):
    def test_open(self):
        for lower in (None, A):
            behind = opened(RULE, BOOK, (ANN, DAN), day=3, lower=lower)
            self.check(CHEST, ("open", lower, (ANN, DAN)), (self.with_book(CHEST, behind), C, ()))
        self.refused(CHEST, ("open", B, ()), ("NoMatter", "lower"))
        self.refused(CHEST, ("open", None, (EVE, ANN, DAN, BOB)), ("NoMatter", "full"))
        self.refused(CHEST, ("open", None, (EVE, ANN)), ("NoRight", (EVE, ANN), 7), day=6)
        self.refused(CHEST, ("open", None, (EVE, BOB)), ("NoRight", (EVE, BOB), "oak"))

    def test_seat(self):
        behind = seated(RULE, BOOK, B, DAN, day=3)
        self.check(CHEST, ("seat", B, DAN), (self.with_book(CHEST, behind), None, ()))
        self.assertEqual(behind[4][-1], ((ANN, DAN), B, 3))
        self.refused(CHEST, ("seat", NOBODY, DAN), ("NoName", NOBODY))
        self.refused(CHEST, ("seat", A, DAN), ("NoMatter", "end"))
        self.refused(CHEST, ("seat", B, ANN), ("NoMatter", "there"))
        self.refused(CHEST, ("seat", B, EVE), ("NoRight", (EVE, ANN), 7))

    def test_leave_and_vote_and_lay_wary_or_not(self):
        for chest in (CHEST, WARY):
            for act, behind, told in (
                (("leave", B, ANN), left(BOOK, B, ANN), None),
                (("vote", B, ANN, "no"), voted(RULE, BOOK, B, ANN, verdict="no"), None),
                (("vote", B, ANN, "yes"), voted(RULE, BOOK, B, ANN), None),
                (("lay", B), laid(BOOK, B), "laid"),
            ):
                self.check(chest, act, (self.with_book(chest, behind), told, ()))
            self.refused(chest, ("leave", B, DAN), ("NoHand", DAN))
            self.refused(chest, ("vote", NOBODY, ANN, "no"), ("NoName", NOBODY))
            self.refused(chest, ("lay", A), ("NoMatter", "end"))

    def test_a_verdict(self):
        book = voted(RULE, seated(RULE, BOOK, B, DAN, day=2), B, DAN, verdict="no")
        behind = voted(RULE, book, B, ANN, verdict="no")
        for chest in (CHEST, WARY):
            self.check(self.with_book(chest, book), ("vote", B, ANN, "no"), (self.with_book(chest, behind), "no", ()))

    def test_wary_goes_ahead_of_all_else(self):
        for act in (("open", None, ()), ("open", NOBODY, (EVE, ANN, DAN, BOB)), ("seat", B, DAN), ("seat", NOBODY, DAN),
                    ("read", B, A), ("read", NOBODY, NOBODY), ("give", PAIR, "oak"), ("give", PAIR, "fir"),
                    ("give", (BOB, CAT), "elm"), ("send", PAIR), ("send", (BOB, CAT))):
            for tells in (TELLS, ()):
                self.refused((BOOK, HEARD, tells, NEWS), act, ("NoDeed", "wary"))


class TestRead(ActCase):
    def test_of_a_matter_of_its_own(self):
        behind = read(RULE, BOOK, B, note_of(BOOK[3], A), day=7)
        self.check(CHEST, ("read", B, A), (self.with_book(CHEST, behind), None, ()), day=7)
        self.assertEqual(behind[3][1][4], ((A, (EVE, ANN), "yes"),))
        # Its own matter goes ahead of news of that name.
        chest = CHEST[:3] + (NEWS + ((A, (DAN,), "no"),),)
        self.check(chest, ("read", B, A), (self.with_book(chest, behind), None, ()), day=7)

    def test_of_a_matter_of_its_own_without_a_verdict(self):
        chest = CHEST[:3] + (NEWS + ((B, (), "no"),),)
        for name in (A, B, NOBODY):
            self.refused(chest, ("read", name, B), ("NoMatter", "verdict"))

    def test_of_the_last_news_of_that_name(self):
        for news, note in ((NEWS, NEWS[2]), (NEWS[:2], NEWS[0]), (NEWS[::-1], NEWS[0])):
            chest = CHEST[:3] + (news,)
            behind = read(RULE, BOOK, B, note, day=3)
            self.check(chest, ("read", B, OAK), (self.with_book(chest, behind), None, ()))
            self.assertEqual(behind[3][1][4], (note,))
        # Of a name of this town that its book has not, there may be news, too.
        chest = CHEST[:3] + (NEWS + ((NOBODY, (), "no"),),)
        behind = read(RULE, BOOK, B, (NOBODY, (), "no"), day=3)
        self.check(chest, ("read", B, NOBODY), (self.with_book(chest, behind), None, ()))

    def test_no_such_note(self):
        for name in (B, A, NOBODY):
            self.refused(CHEST, ("read", name, ("oak", 5, 5)), ("NoName", ("oak", 5, 5)))
        self.refused(CHEST[:3] + ((),), ("read", B, OAK), ("NoName", OAK))

    def test_refused_as_reading_is(self):
        self.refused(CHEST, ("read", NOBODY, OAK), ("NoName", NOBODY))
        self.refused(CHEST, ("read", A, OAK), ("NoMatter", "end"))
        self.refused(CHEST, ("read", B, A), ("NoRight", (EVE, ANN), 7))
        book = opened(RULE, BOOK, (), day=2, lower=A)
        self.refused(self.with_book(CHEST, book), ("read", C, A), ("NoMatter", "path"))
        book = read(RULE, BOOK, B, NEWS[0], day=2)
        self.refused(self.with_book(CHEST, book), ("read", B, OAK), ("NoMatter", "read"))


class TestNote(ActCase):
    def test_a_letter_wary_or_not(self):
        for chest in (CHEST, WARY):
            for to in ("ash", "oak"):
                self.check(chest, ("note", A, to), (chest, None, (("note", "elm", to, (A, (EVE, ANN), "yes")),)))

    def test_the_standing_verdict(self):
        book = opened(RULE, BOOK, (EVE, ANN), day=2, lower=A)
        for hand in (EVE, ANN):
            book = voted(RULE, book, C, hand, verdict="no")
        chest = self.with_book(CHEST, book)
        self.check(chest, ("note", A, "oak"), (chest, None, (("note", "elm", "oak", (A, (EVE, ANN), "no")),)))

    def test_no_town_goes_ahead_of_all_else(self):
        for chest in (CHEST, WARY):
            for name in (A, B, NOBODY):
                for to in ("fir", "elm"):
                    self.refused(chest, ("note", name, to), ("NoTown", to))
            self.refused(chest, ("note", NOBODY, "oak"), ("NoName", NOBODY))
            self.refused(chest, ("note", B, "oak"), ("NoMatter", "verdict"))
            # The news are no matters of its own.
            self.refused(chest, ("note", OAK, "ash"), ("NoName", OAK))


class TestGive(ActCase):
    def test_give(self):
        rights, letter = given_to(BOOK[2], "elm", PAIR, "oak", rise=0)
        chest = self.with_book(CHEST, BOOK[:2] + (rights,) + BOOK[3:])
        self.check(CHEST, ("give", PAIR, "oak"), (chest, None, (letter,)))
        self.assertEqual(letter, ("give", "elm", "oak", (PAIR, (0, 1), "oak", "elm", 0, 0, False)))
        self.check(chest, ("send", PAIR), (chest, None, (letter,)))
        self.assertEqual(letter_of(rights, "elm", PAIR), letter)
        self.refused(chest, ("give", PAIR, "ash"), ("NoRight", PAIR, "oak"))

    def test_the_rise_of_the_book(self):
        rule = (("elm",), 3, 2, 7)
        sure = risen_chest(rule, saved_of(first_chest(rule, "elm")), rise=4, day=5)
        told = acted((("elm", "oak"), 3, 2, 7), sure, ("give", PAIR, "oak"), day=6)
        row = (PAIR, (4, 1), "oak", "elm", 4, 12, False)
        self.assertEqual(told[1:], (None, (("give", "elm", "oak", row),)))
        self.assertEqual(told[0], (("elm", 4, (4, 12, (row,)), (), ()),) + sure[1:])

    def test_no_town(self):
        for pair in (PAIR, (BOB, CAT)):
            for to in ("fir", "elm"):
                self.refused(CHEST, ("give", pair, to), ("NoTown", to))
        self.refused(CHEST, ("give", (BOB, CAT), "ash"), ("NoRight", (BOB, CAT), "oak"))

    def test_send(self):
        self.refused(CHEST, ("send", PAIR), ("NoRight", PAIR, "elm"))
        self.refused(CHEST, ("send", (BOB, CAT)), ("NoRight", (BOB, CAT), "oak"))


class TestAsk(ActCase):
    def test_a_wary_town_asks_all_others(self):
        for tells in (TELLS, ()):
            chest = (BOOK, HEARD, tells, NEWS)
            self.check(chest, ("ask",), (chest, None, (("ask", "elm", "ash", HEARD), ("ask", "elm", "oak", HEARD))))
        for town, others in (("ash", ("elm", "oak")), ("oak", ("ash", "elm"))):
            chest = risen_chest(RULE, saved_of(first_chest(RULE, town)), rise=1, day=4)
            letters = tuple([("ask", town, other, chest[1]) for other in others])
            self.check(chest, ("ask",), (chest, None, letters))

    def test_sure(self):
        self.refused(CHEST, ("ask",), ("NoDeed", "sure"))
        self.refused(first_chest(RULE, "ash"), ("ask",), ("NoDeed", "sure"))

    def test_the_day_goes_by_name_alone(self):
        with self.assertRaises(TypeError):
            acted(RULE, WARY, ("ask",), 3)


if __name__ == "__main__":
    unittest.main()
