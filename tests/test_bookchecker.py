import copy
import unittest

from samples import ANN, ANY_THINGS, BOB, CAT, DAN, EVE, RULE
from strangerbench.bookchecker import lets_book
from strangerbench.errors import NoPaper
from strangerbench.matterkinds import first_book

A = ("elm", 0, 0)
B = ("elm", 0, 1)
C = ("elm", 1, 0)
NOTE = (("oak", 0, 0), (CAT,), "no")
# A has a verdict, B appeals it, C is by itself; they are on days 0, 2 and 9.
FIRST = (A, None, (ANN, BOB), (ANN, BOB), (), ((ANN, "yes"), (BOB, "yes")), "yes")
APPEAL = (B, A, (ANN,), (ANN, CAT), (NOTE,), (), None)
ALONE = (C, None, (EVE,), (EVE, ANN), (), ((EVE, "no"),), "laid")
MATTERS = (FIRST, APPEAL, ALONE)
BURNINGS = (
    ((EVE, ANN), C, 9),
    ((ANN, BOB), A, 0),
    ((ANN, CAT), A, 2),
    ((BOB, CAT), A, 2),
)


def row(pair, free):
    """A row of the pair with this free."""
    return (pair, (0, 2), "elm", "elm", 0, free, True)


ROWS = (row((EVE, ANN), 16), row((ANN, BOB), 7), row((ANN, CAT), 9), row((BOB, CAT), 9))
BOOK = ("elm", 1, (0, 0, ROWS), MATTERS, BURNINGS)


def with_part(thing, at, part):
    """The tuple with another part at this place."""
    return thing[:at] + (part,) + thing[at + 1:]


def with_matter(at, place, part, book=BOOK):
    """The book in which one matter has another part."""
    return with_part(book, 3, with_part(book[3], at, with_part(book[3][at], place, part)))


def with_burnings(burnings):
    """The book with other burnings, and rows whose free bars none of these."""
    rows = tuple([row(pair, 10 ** 9) for pair, _, _ in BURNINGS])
    return with_part(with_part(BOOK, 4, tuple(sorted(burnings))), 2, (0, 0, rows))


class TestLetsBook(unittest.TestCase):
    def check(self, book, word, at, rule=RULE):
        before = copy.deepcopy(book)
        with self.assertRaises(NoPaper) as caught:
            lets_book(rule, book)
        self.assertEqual((caught.exception.word, caught.exception.at), (word, at))
        self.assertIs(type(caught.exception.at), int)
        self.assertEqual(book, before)

    def test_books_that_hold_together(self):
        self.assertIs(lets_book(RULE, BOOK), True)
        self.assertIs(lets_book(rule=RULE, thing=BOOK), True)
        for town in RULE[0]:
            self.assertIs(lets_book(RULE, first_book(town)), True)

    def test_any_thing(self):
        for thing in ANY_THINGS:
            self.check(thing, "shape", -1)

    def test_one_place_otherwise(self):
        for at in range(5):
            for part in ANY_THINGS:
                if part == () or at == 1 and type(part) is int and part >= 0:
                    continue
                self.check(with_part(BOOK, at, part), "shape", -1)
        for at in range(3):
            for place in range(7):
                for part in ANY_THINGS:
                    if part is None or part == ():
                        continue
                    self.check(with_matter(at, place, part), "shape", -1)
        self.check(list(BOOK), "shape", -1)
        self.check(with_part(BOOK, 3, list(MATTERS)), "shape", -1)
        self.check(with_part(BOOK, 1, True), "shape", -1)
        self.check(with_part(BOOK, 4, BURNINGS[::-1]), "shape", -1)
        self.check(with_matter(0, 6, True), "shape", -1)

    def test_shape_ahead_of_all(self):
        book = with_part(with_matter(0, 2, (DAN,)), 0, "fir")
        self.check(with_part(book, 4, [BURNINGS]), "shape", -1)
        self.check(book, "town", -1)

    def test_town(self):
        self.check(with_part(BOOK, 0, "fir"), "town", -1)
        self.check(first_book("fir"), "town", -1)
        self.check(BOOK, "town", -1, rule=(("ash", "oak"), 3, 2, 7))

    def test_name(self):
        self.check(with_part(BOOK, 0, "oak"), "name", 0)
        self.check(with_matter(2, 0, ("oak", 1, 0)), "name", 2)
        self.check(with_part(BOOK, 1, 0), "name", 2)
        self.check(with_matter(2, 0, ("elm", 2, 0)), "name", 2)
        self.check(with_matter(2, 0, ("elm", 1, 1)), "name", 2)
        self.check(with_matter(1, 0, ("elm", 0, 2)), "name", 1)
        self.check(with_matter(0, 0, ("ash", 0, 0)), "name", 0)
        self.check(with_part(BOOK, 3, MATTERS[1:]), "name", 0)
        self.assertIs(lets_book(RULE, with_part(BOOK, 1, 5)), True)

    def test_lower(self):
        self.check(with_matter(0, 1, A), "lower", 0)
        self.check(with_matter(0, 1, B), "lower", 0)
        self.check(with_matter(1, 1, B), "lower", 1)
        self.check(with_matter(1, 1, ("oak", 0, 0)), "lower", 1)
        self.check(with_matter(2, 1, B), "lower", 2)
        for end in (None, "laid", "broken"):
            book = with_matter(0, 6, end, with_matter(0, 5, ()))
            self.check(book, "lower", 1)

    def test_lower_with_no(self):
        votes = ((ANN, "no"), (BOB, "no"))
        self.assertIs(lets_book(RULE, with_matter(0, 6, "no", with_matter(0, 5, votes))), True)

    def test_seats(self):
        self.check(with_matter(0, 2, (ANN, BOB, CAT)), "seats", 0)
        self.check(with_matter(2, 2, (BOB,)), "seats", 2)
        many = (EVE, ANN, DAN, BOB)
        book = with_matter(2, 3, many, with_matter(2, 2, many))
        self.check(book, "seats", 2)
        alone = ("elm", 1, (0, 0, ()), ((A, None, many, many, (), (), None),), ())
        self.check(alone, "seats", 0)
        self.check(alone, "paid", 0, rule=(RULE[0], 4, 3, 7))

    def test_seats_may_all_be_taken(self):
        rule = (RULE[0], 2, 2, 7)
        self.assertIs(lets_book(rule, BOOK), True)
        three = with_matter(0, 3, (EVE, ANN, BOB), with_matter(0, 2, (EVE, ANN, BOB)))
        self.check(three, "seats", 0, rule=rule)
        self.check(three, "paid", 0)

    def test_notes(self):
        self.check(with_matter(1, 3, (ANN,)), "notes", 1)
        # A voice of the lower one isn't one of the matter's own.
        self.check(with_matter(1, 4, ((("oak", 0, 0), (BOB, CAT), "no"),)), "notes", 1)
        later = (("oak", 0, 1), (ANN, DAN), "no")
        self.check(with_matter(1, 4, (NOTE, later)), "notes", 1)
        self.assertIs(lets_book(RULE, with_matter(1, 4, (NOTE, (("oak", 0, 1), (), "no")))), True)

    def test_votes(self):
        self.check(with_matter(2, 5, ((ANN, "no"),)), "votes", 2)
        self.check(with_matter(0, 2, (ANN,)), "votes", 0)
        self.check(with_matter(1, 5, ((ANN, "no"), (CAT, "yes"))), "votes", 1)
        self.assertIs(lets_book(RULE, with_matter(1, 5, ((ANN, "no"),))), True)

    def test_end(self):
        for end in (None, "no", "laid", "broken"):
            self.check(with_matter(0, 6, end), "end", 0)
        for end in ("yes", "no"):
            self.check(with_matter(1, 6, end), "end", 1)
            self.check(with_matter(2, 6, end), "end", 2)
        for end in (None, "laid", "broken"):
            self.assertIs(lets_book(RULE, with_matter(2, 6, end)), True)
        self.check(with_matter(0, 5, ((ANN, "no"), (BOB, "yes"))), "end", 0)
        self.check(with_matter(0, 5, ((ANN, "no"), (BOB, "no"))), "end", 0)
        self.check(BOOK, "end", 0, rule=(RULE[0], 4, 3, 7))

    def test_more_votes_than_needed(self):
        hands = (EVE, ANN, BOB)
        book = with_matter(0, 3, hands, with_matter(0, 2, hands))
        burnings = BURNINGS + (((EVE, ANN), A, 0), ((EVE, BOB), A, 0), ((EVE, CAT), A, 0))
        rows = tuple(sorted([row(pair, 99) for pair in {told[0]: 0 for told in burnings}]))
        book = with_part(with_part(book, 4, tuple(sorted(burnings))), 2, (0, 0, rows))
        self.assertIs(lets_book(RULE, book), True)
        self.assertIs(lets_book(RULE, with_matter(0, 5, tuple([(hand, "yes") for hand in hands]), book)), True)
        mixed = ((EVE, "no"), (ANN, "yes"), (BOB, "yes"))
        self.assertIs(lets_book(RULE, with_matter(0, 5, mixed, book)), True)

    def test_paid(self):
        self.check(with_burnings(BURNINGS[1:]), "paid", 2)
        self.check(with_burnings(BURNINGS[:1] + BURNINGS[2:]), "paid", 0)
        # Ann and Bob are paid by the lower one, Bob and Cat only by the appeal.
        self.check(with_burnings(BURNINGS[:3]), "paid", 1)
        self.check(with_burnings(BURNINGS[:2] + BURNINGS[3:]), "paid", 1)
        # What is burnt for the appeal itself isn't burnt for the root.
        self.check(with_burnings(BURNINGS[:3] + (((BOB, CAT), B, 2),)), "paid", 1)
        self.check(with_part(BOOK, 4, ()), "paid", 0)

    def test_burning(self):
        self.check(with_burnings(BURNINGS + (((ANN, BOB), C, 30),)), "burning", 2)
        self.check(with_burnings(BURNINGS + (((EVE, BOB), A, 30),)), "burning", 1)
        self.check(with_burnings(BURNINGS + (((ANN, BOB), ("elm", 0, 7), 30),)), "burning", 2)
        self.check(with_burnings(BURNINGS + (((ANN, CAT), B, 30),)), "burning", 3)
        self.check(with_part(BOOK, 3, ()), "burning", 0)

    def test_voices_of_two_paths_of_a_root(self):
        other = (("elm", 0, 2), A, (DAN,), (DAN,), (), (), None)
        more = (((ANN, DAN), A, 4), ((DAN, BOB), A, 4))
        rows = tuple(sorted(ROWS + tuple([row(pair, 11) for pair, _, _ in more])))
        book = ("elm", 1, (0, 0, rows), (FIRST, APPEAL, other, ALONE), tuple(sorted(BURNINGS + more)))
        self.assertIs(lets_book(RULE, book), True)
        # Cat and Dan are voices of two appeals, of no one path.
        apart = with_part(book, 4, tuple(sorted(book[4] + (((DAN, CAT), A, 40),))))
        self.check(apart, "burning", 5)

    def test_span(self):
        self.check(with_burnings(BURNINGS + (((ANN, BOB), A, 6),)), "span", 1)
        self.check(with_burnings(BURNINGS + (((ANN, CAT), A, 8),)), "span", 2)
        self.assertIs(lets_book(RULE, with_burnings(BURNINGS + (((ANN, BOB), A, 7),))), True)
        self.check(with_burnings(BURNINGS + (((ANN, BOB), A, 7),)), "span", 1, rule=(RULE[0], 3, 2, 8))
        # Of a later burning and an earlier one that stands behind it the one that stands ahead is told.
        two = (C, None, (), (ANN, BOB), (), (), "laid")
        days = (((ANN, BOB), A, 20), ((ANN, BOB), C, 14), ((ANN, CAT), A, 2), ((BOB, CAT), A, 2))
        book = with_part(with_burnings(days), 3, (FIRST, APPEAL, two))
        self.check(book, "span", 0)
        for day, told in ((13, True), (27, True), (14, False), (26, False)):
            days = (((ANN, BOB), A, 20), ((ANN, BOB), C, day), ((ANN, CAT), A, 2), ((BOB, CAT), A, 2))
            book = with_part(with_burnings(days), 3, (FIRST, APPEAL, two))
            if told:
                self.assertIs(lets_book(RULE, book), True)
            else:
                self.check(book, "span", 0)

    def test_free(self):
        for at, (pair, _, day) in enumerate(BURNINGS):
            rows = with_part(ROWS, at, row(pair, day + 6))
            self.check(with_part(BOOK, 2, (0, 0, rows)), "free", at)
            rows = with_part(ROWS, at, row(pair, day + 8))
            self.assertIs(lets_book(RULE, with_part(BOOK, 2, (0, 0, rows))), True)
        # A pair without a row has the floor as its free at its home, else 0.
        rows = ROWS[1:]
        self.check(with_part(BOOK, 2, (1, 15, rows)), "free", 0)
        self.assertIs(lets_book(RULE, with_part(BOOK, 2, (1, 16, rows))), True)
        self.check(with_part(BOOK, 2, (1, 16, ROWS[:1] + ROWS[2:])), "free", 1)
        self.check(BOOK, "free", 0, rule=(RULE[0], 3, 2, 8))

    def test_the_first_of_several(self):
        wrong = with_matter(1, 4, ((("oak", 0, 0), (DAN,), "no"),))
        self.check(with_matter(1, 5, ((BOB, "no"),), wrong), "notes", 1)
        self.check(with_matter(2, 0, ("elm", 1, 4), wrong), "notes", 1)
        self.check(with_matter(0, 6, None, wrong), "end", 0)
        self.check(with_matter(1, 2, (BOB,), wrong), "seats", 1)
        self.check(with_matter(1, 1, C, with_matter(1, 2, (BOB,), wrong)), "lower", 1)
        self.check(with_matter(1, 0, ("elm", 0, 3), with_matter(1, 1, C)), "name", 1)
        self.check(with_matter(1, 6, "no", with_matter(1, 5, ((BOB, "no"),))), "votes", 1)
        self.check(with_matter(1, 6, "no", with_part(BOOK, 4, BURNINGS[:2])), "end", 1)
        # All matters go ahead of all burnings.
        self.check(with_matter(2, 6, "no", with_part(BOOK, 2, (0, 0, ()))), "end", 2)
        self.check(with_part(with_burnings(BURNINGS + (((ANN, BOB), A, 6),)), 2, (0, 0, ROWS[1:])), "free", 0)
        both = with_part(with_burnings(BURNINGS + (((ANN, BOB), B, 3),)), 2, (0, 0, ROWS[:1]))
        self.check(both, "span", 1)
        lone = with_part(with_burnings((((EVE, BOB), C, 9), ((EVE, BOB), C, 10)) + BURNINGS), 2, (0, 0, ROWS))
        self.check(lone, "burning", 1)


if __name__ == "__main__":
    unittest.main()
