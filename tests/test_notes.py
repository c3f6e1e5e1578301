import unittest

from samples import ANN, BOB, CAT, DAN, EVE, RULE, all_tuples, refusal
from strangerbench.bookchecker import lets_book
from strangerbench.letting import lacks, let_in
from strangerbench.matterdeeds import laid, opened, risen, voted
from strangerbench.matterkinds import first_book, is_note
from strangerbench.notes import note_of, read

A, B, C, D = [("elm", 0, number) for number in range(4)]
NOBODY = ("elm", 0, 9)
OAK = ("oak", 0, 0)


def ended(book, hands, verdict, day, lower=None):
    """The book with a matter more, ended by two of the hands."""
    name = ("elm", book[1], len(book[3]))
    book = opened(RULE, book, hands, day=day, lower=lower)
    for hand in hands[:2]:
        book = voted(RULE, book, name, hand, verdict=verdict)
    return book


FIRST = ended(first_book("elm"), (EVE, ANN), "yes", 0)


class TestNoteOf(unittest.TestCase):
    def test_of_a_root(self):
        told = note_of(FIRST[3], A)
        self.assertEqual(told, (A, (EVE, ANN), "yes"))
        self.assertEqual(note_of(matters=FIRST[3], name=A), told)
        self.assertIs(all_tuples(told), True)
        self.assertIs(is_note(told), True)

    def test_the_voices_of_the_path_and_the_standing_verdict(self):
        book = ended(FIRST, (ANN, DAN), "no", 1, lower=A)
        self.assertEqual(note_of(book[3], A), (A, (EVE, ANN), "no"))
        self.assertEqual(note_of(book[3], B), (B, (EVE, ANN, DAN), "no"))
        book = ended(book, (EVE, ANN), "yes", 2, lower=B)
        self.assertEqual([note_of(book[3], name)[2] for name in (A, B, C)], ["yes"] * 3)
        # By later appeals just the verdict turns.
        self.assertEqual([note_of(book[3], name)[1] for name in (A, B, C)],
                         [(EVE, ANN), (EVE, ANN, DAN), (EVE, ANN, DAN)])
        self.assertEqual(note_of(risen(book, rise=3)[3], B), note_of(book[3], B))

    def test_without_a_verdict_of_its_own(self):
        book = opened(RULE, FIRST, (), day=0, lower=A)
        for matters in (book[3], laid(book, B)[3], risen(book, rise=1)[3]):
            self.assertEqual(refusal(note_of, matters, B), ("NoMatter", "verdict"))
        self.assertEqual(note_of(book[3], A), (A, (EVE, ANN), "yes"))

    def test_a_name_that_none_has_goes_first(self):
        for matters in ((), FIRST[3]):
            self.assertEqual(refusal(note_of, matters, NOBODY), ("NoName", NOBODY))


class TestRead(unittest.TestCase):
    # Two matters: one with a verdict, and one that is open, in which Ann sits.
    book = opened(RULE, FIRST, (ANN,), day=1)
    note = (OAK, (ANN, DAN), "no")

    def test_read(self):
        told = read(RULE, self.book, B, self.note, day=4)
        town, rise, rights, matters, burnings = told
        self.assertEqual((town, rise), ("elm", 0))
        self.assertEqual(matters, (FIRST[3][0], (B, None, (ANN,), (ANN, DAN), (self.note,), (), None)))
        self.assertEqual(burnings, (((EVE, ANN), A, 0), ((ANN, DAN), B, 4)))
        self.assertEqual(rights, let_in(RULE, self.book, B, (DAN,), day=4)[2])
        self.assertEqual(read(rule=RULE, book=self.book, name=B, note=self.note, day=4), told)
        self.assertIs(lets_book(RULE, told), True)
        self.assertIs(all_tuples(told), True)

    def test_notes_rise(self):
        others = [(name, (), "yes") for name in (("ash", 0, 3), OAK, ("oak", 0, 10), ("oak", 0, 2))]
        book = self.book
        for note in others:
            book = read(RULE, book, B, note, day=4)
        self.assertEqual(book[3][1][4], tuple(sorted(others)))
        self.assertEqual((book[2], book[4]), (self.book[2], self.book[4]))
        self.assertIs(lets_book(RULE, book), True)

    def test_a_note_of_this_very_book(self):
        told = read(RULE, self.book, B, note_of(self.book[3], A), day=7)
        self.assertEqual(told[3][1][3], (EVE, ANN))
        self.assertEqual(told[4], (((EVE, ANN), A, 0), ((EVE, ANN), B, 7)))
        self.assertEqual(refusal(read, RULE, self.book, B, note_of(self.book[3], A), day=6), ("NoRight", (EVE, ANN), 7))

    def test_nobody_asks_whether_it_was_told(self):
        # Nobody told it: the matter A has another verdict, other voices.
        told = read(RULE, self.book, B, (A, (DAN,), "no"), day=4)
        self.assertEqual(told[3][1][4], ((A, (DAN,), "no"),))
        self.assertEqual(told[4][-1], ((ANN, DAN), B, 4))
        told = read(RULE, self.book, B, (NOBODY, (), "no"), day=4)
        self.assertEqual(told[3][1][4], ((NOBODY, (), "no"),))

    def test_a_note_of_itself_or_of_its_path(self):
        book = opened(RULE, ended(self.book, (EVE, ANN), "no", 7, lower=A), (), day=7, lower=C)
        for name in (A, C, D):
            self.assertEqual(refusal(read, RULE, book, D, (name, (), "yes"), day=8), ("NoMatter", "path"))
        self.assertEqual(read(RULE, book, D, (B, (), "yes"), day=8)[3][3][4], ((B, (), "yes"),))
        self.assertEqual(refusal(read, RULE, self.book, B, (B, (), "yes"), day=8), ("NoMatter", "path"))

    def test_a_name_that_was_read(self):
        book = read(RULE, self.book, B, self.note, day=4)
        for note in (self.note, (OAK, (), "yes"), (OAK, (ANN, BOB), "no")):
            self.assertEqual(refusal(read, RULE, book, B, note, day=4), ("NoMatter", "read"))

    def test_voices_that_lack_a_right(self):
        for note, wanted in (((OAK, (BOB,), "no"), ((ANN, BOB), "oak")), ((OAK, (BOB, CAT), "no"), ((ANN, BOB), "oak")),
                             ((OAK, (EVE, DAN), "no"), ((EVE, ANN), 7))):
            self.assertEqual(refusal(read, RULE, self.book, B, note, day=1), ("NoRight",) + wanted)
            self.assertEqual(lacks(RULE, self.book, B, note[1], day=1), wanted)
        # The note's own voices have to be paid for here, too, though Ann isn't among them.
        lone = opened(RULE, FIRST, (), day=1)
        self.assertEqual(refusal(read, RULE, lone, B, (OAK, (BOB, CAT), "no"), day=1), ("NoRight", (BOB, CAT), "oak"))

    def test_refusals_in_their_order(self):
        book = read(RULE, self.book, B, (OAK, (), "yes"), day=4)
        for note in ((NOBODY, (BOB,), "no"), (OAK, (BOB,), "no"), (A, (BOB,), "no"), (B, (BOB,), "no")):
            self.assertEqual(refusal(read, RULE, book, NOBODY, note, day=1), ("NoName", NOBODY))
            self.assertEqual(refusal(read, RULE, book, A, note, day=1), ("NoMatter", "end"))
            self.assertEqual(refusal(read, RULE, laid(book, B), B, note, day=1), ("NoMatter", "end"))
            self.assertEqual(refusal(read, RULE, risen(book, rise=2), B, note, day=1), ("NoMatter", "end"))
        self.assertEqual(refusal(read, RULE, book, B, (B, (BOB,), "no"), day=1), ("NoMatter", "path"))
        self.assertEqual(refusal(read, RULE, book, B, (OAK, (BOB,), "no"), day=1), ("NoMatter", "read"))
        self.assertEqual(refusal(read, RULE, book, B, (C, (BOB,), "no"), day=1), ("NoRight", (ANN, BOB), "oak"))
        # The path goes ahead of what was read: a book that holds together may have a note of its own matter.
        name, lower, seats, voices, _, votes, end = book[3][1]
        odd = book[:3] + ((book[3][0], (name, lower, seats, voices, ((B, (), "yes"),), votes, end)),) + book[4:]
        self.assertIs(lets_book(RULE, odd), True)
        self.assertEqual(refusal(read, RULE, odd, B, (B, (), "yes"), day=1), ("NoMatter", "path"))

    def test_the_day_goes_by_name_alone(self):
        with self.assertRaises(TypeError):
            read(RULE, self.book, B, self.note, 4)


if __name__ == "__main__":
    unittest.main()
