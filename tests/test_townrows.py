import unittest

from samples import ANN, ANY_THINGS, BOB, CAT, DAN, EVE, RULE, all_tuples, check_look, check_parts, refusal
from strangerbench.letting import let_in
from strangerbench.matterdeeds import laid, left, opened, seated, voted
from strangerbench.matterkinds import first_book
from strangerbench.notes import read
from strangerbench.townrows import all_done, done, is_deed

A, B = ("elm", 0, 0), ("elm", 0, 1)
NOBODY = ("elm", 7, 7)
NOTE = (("oak", 0, 0), (ANN, DAN), "no")
FIRST = first_book("elm")
NO_DAYS = (-1, True, False, None, "0", (0,))
NO_NAMES = (None, list(A), ("elm", True, 0), ("elm", 0), "elm", ANN)
NO_HANDS = (None, [], [ANN], (BOB, ANN), (ANN, ANN), (list(ANN),), ANN, (ANN, None), "elm")
NO_HAND = (None, list(ANN), ("elm", 1), (ANN, BOB), "elm", ("elm", "Ann"))
NO_VERDICTS = (None, True, "laid", "broken", "", "Yes", ("yes",), ["yes"], 1)
NO_NOTES = (None, list(NOTE), NOTE[:2], (A, (BOB, ANN), "yes"), (A, (), "laid"), (NOTE,))


class TestIsDeed(unittest.TestCase):
    def test_any_things(self):
        for thing in ANY_THINGS:
            check_look(self, is_deed, thing, False)

    def check_deed(self, deed, rights, wrongs):
        check_look(self, is_deed, deed, True)
        check_parts(self, is_deed, deed, rights, wrongs)
        words = ("", "Open", "opened", "ask", "read", "give", "send", "world", None, 0, True, [], (), ["open"], ("open",))
        for thing in [list(deed), deed[:-1], deed + (None,), deed + (0,), (deed,), deed[1:]]:
            check_look(self, is_deed, thing, False)
        check_parts(self, is_deed, deed, [], [(0, words)])

    def test_open(self):
        self.check_deed(
            ("open", 3, None, (ANN, BOB)),
            [(1, (0, 10 ** 70)), (2, (A, NOBODY)), (3, ((), (ANN,), (EVE, ANN, DAN, BOB, CAT)))],
            [(1, NO_DAYS), (2, NO_NAMES[1:] + (False, 0, "", ())), (3, NO_HANDS)],
        )

    def test_seat(self):
        self.check_deed(
            ("seat", 3, A, ANN), [(1, (0, 10 ** 70)), (2, (NOBODY,)), (3, (CAT,))],
            [(1, NO_DAYS), (2, NO_NAMES), (3, NO_HAND)],
        )

    def test_note(self):
        self.check_deed(
            ("note", 3, A, NOTE), [(1, (0,)), (2, (NOBODY,)), (3, ((A, (), "yes"),))],
            [(1, NO_DAYS), (2, NO_NAMES), (3, NO_NOTES)],
        )

    def test_leave_and_vote_and_lay(self):
        self.check_deed(("leave", A, ANN), [(1, (NOBODY,)), (2, (CAT,))], [(1, NO_NAMES), (2, NO_HAND)])
        self.check_deed(
            ("vote", A, ANN, "yes"), [(1, (NOBODY,)), (2, (CAT,)), (3, ("no",))],
            [(1, NO_NAMES), (2, NO_HAND), (3, NO_VERDICTS)],
        )
        self.check_deed(("lay", A), [(1, (NOBODY,))], [(1, NO_NAMES)])

    def test_each_word_has_its_own_kinds(self):
        parts = [(3, None, (ANN,)), (3, A, ANN), (3, A, NOTE), (A, ANN), (A, ANN, "yes"), (A,)]
        words = ["open", "seat", "note", "leave", "vote", "lay"]
        for at, word in enumerate(words):
            for other, things in enumerate(parts):
                check_look(self, is_deed, (word,) + things, at == other)


class TestDone(unittest.TestCase):
    def test_open_tells_the_name(self):
        book, told = done(RULE, FIRST, ("open", 2, None, (EVE, ANN)))
        self.assertEqual((book, told), (opened(RULE, FIRST, (EVE, ANN), day=2), A))
        self.assertEqual(done(rule=RULE, book=FIRST, deed=("open", 2, None, (EVE, ANN))), (book, A))
        for hand in (EVE, ANN):
            book = voted(RULE, book, A, hand)
        behind = done(RULE, book, ("open", 3, A, (DAN,)))
        self.assertEqual(behind, (opened(RULE, book, (DAN,), day=3, lower=A), B))
        self.assertIs(all_tuples(behind), True)

    def test_others_tell_the_end_or_none(self):
        book = opened(RULE, FIRST, (EVE, ANN), day=2)
        for deed, behind in (
            (("seat", 4, A, DAN), seated(RULE, book, A, DAN, day=4)),
            (("note", 5, A, NOTE), read(RULE, book, A, NOTE, day=5)),
            (("leave", A, EVE), left(book, A, EVE)),
            (("vote", A, EVE, "no"), voted(RULE, book, A, EVE, verdict="no")),
            (("vote", A, EVE, "yes"), voted(RULE, book, A, EVE)),
        ):
            self.assertEqual(done(RULE, book, deed), (behind, None))
            self.assertIs(all_tuples(done(RULE, book, deed)), True)
        self.assertEqual(done(RULE, book, ("lay", A)), (laid(book, A), "laid"))
        for verdict in ("yes", "no"):
            once = voted(RULE, book, A, ANN, verdict=verdict)
            behind = voted(RULE, once, A, EVE, verdict=verdict)
            self.assertEqual(done(RULE, once, ("vote", A, EVE, verdict)), (behind, verdict))

    def test_refusals(self):
        book = opened(RULE, FIRST, (EVE, ANN), day=2)
        for deed, wanted in (
            (("open", 2, A, ()), ("NoMatter", "lower")),
            (("open", 2, None, (EVE, ANN, DAN, BOB)), ("NoMatter", "full")),
            (("open", 2, None, (EVE, ANN)), ("NoRight", (EVE, ANN), 9)),
            (("seat", 2, NOBODY, DAN), ("NoName", NOBODY)),
            (("seat", 2, A, ANN), ("NoMatter", "there")),
            (("seat", 2, A, BOB), ("NoRight", (EVE, BOB), "oak")),
            (("note", 2, NOBODY, NOTE), ("NoName", NOBODY)),
            (("note", 2, A, (A, (), "yes")), ("NoMatter", "path")),
            (("note", 2, A, (B, (CAT,), "yes")), ("NoRight", (EVE, CAT), "oak")),
            (("leave", NOBODY, DAN), ("NoName", NOBODY)),
            (("leave", A, DAN), ("NoHand", DAN)),
            (("vote", A, BOB, "no"), ("NoHand", BOB)),
            (("vote", NOBODY, BOB, "no"), ("NoName", NOBODY)),
            (("lay", NOBODY), ("NoName", NOBODY)),
        ):
            self.assertEqual(refusal(done, RULE, book, deed), wanted)
        ended = laid(book, A)
        for deed in (("seat", 2, A, DAN), ("note", 2, A, NOTE), ("leave", A, ANN), ("vote", A, ANN, "yes"), ("lay", A)):
            self.assertEqual(refusal(done, RULE, ended, deed), ("NoMatter", "end"))


class TestAllDone(unittest.TestCase):
    deeds = (
        ("open", 0, None, (EVE, ANN)), ("vote", A, EVE, "yes"), ("seat", 1, A, DAN), ("leave", A, EVE),
        ("vote", A, ANN, "yes"), ("vote", A, DAN, "yes"), ("open", 2, A, ()), ("note", 3, B, NOTE), ("lay", B),
    )
    told = (A, None, None, None, None, "yes", B, None, "laid")

    def test_a_tuple_and_a_list(self):
        book = FIRST
        for deed in self.deeds:
            book, _ = done(RULE, book, deed)
        for deeds in (self.deeds, list(self.deeds)):
            before = list(deeds)
            self.assertEqual(all_done(RULE, FIRST, deeds), (book, self.told))
            self.assertEqual(all_done(rule=RULE, book=FIRST, deeds=deeds), (book, self.told))
            self.assertEqual(list(deeds), before)
            self.assertIs(all_tuples(all_done(RULE, FIRST, deeds)), True)
        self.assertEqual(book[3][0][6], "yes")
        self.assertEqual(book[3][1][3], (ANN, DAN))

    def test_no_deeds(self):
        for deeds in ((), []):
            self.assertEqual(all_done(RULE, FIRST, deeds), (FIRST, ()))

    def test_the_first_that_is_refused(self):
        for wrong, wanted in ((("lay", NOBODY), ("NoName", NOBODY)), (("leave", A, CAT), ("NoHand", CAT)),
                              (("seat", 2, A, BOB), ("NoRight", (EVE, BOB), "oak"))):
            for kind in (tuple, list):
                deeds = kind(self.deeds[:2] + (wrong, ("lay", ("elm", 5, 5))) + self.deeds[2:])
                self.assertEqual(refusal(all_done, RULE, FIRST, deeds), wanted)

    def test_who_wrote_unlike_notes_is_paid_for(self):
        # Dan and Ann never met; both are voices of unlike notes of one name, read in two matters on one path.
        yes, no = (("oak", 3, 3), (ANN,), "yes"), (("oak", 3, 3), (DAN,), "no")
        book, _ = all_done(RULE, FIRST, [
            ("open", 0, None, (EVE,)), ("note", 1, A, yes), ("seat", 2, A, ANN), ("vote", A, EVE, "yes"),
            ("vote", A, ANN, "yes"), ("open", 3, A, ()), ("note", 4, B, no),
        ])
        self.assertIn(((ANN, DAN), A, 4), book[4])
        self.assertIn(((EVE, DAN), A, 4), book[4])
        self.assertEqual(book[3][1][3], (DAN,))
        self.assertEqual(let_in(RULE, book, B, (ANN, DAN, EVE), day=4)[4], book[4])


if __name__ == "__main__":
    unittest.main()
