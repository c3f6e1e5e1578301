import unittest

from samples import ANN, BOB, CAT, DAN, EVE, RULE
from strangerbench.bookchecker import lets_book
from strangerbench.errors import NoHand, NoMatter, NoName, NoRight
from strangerbench.matterdeeds import laid, left, opened, risen, seated, voted
from strangerbench.matterkinds import first_book

ABE = ("ash", "abe")
A = ("elm", 0, 0)
B = ("elm", 0, 1)
NOBODY = ("elm", 7, 7)
FIRST = first_book("elm")


def opened_by(hands, book=FIRST, day=0, lower=None):
    """The book behind opening."""
    return opened(RULE, book, hands, day=day, lower=lower)


def matter(book, name):
    """The matter of the book that is called so."""
    found, = [one for one in book[3] if one[0] == name]
    return found


class DeedCase(unittest.TestCase):
    def refused(self, kind, field, wanted, act, *things, **more):
        with self.assertRaises(kind) as caught:
            act(*things, **more)
        self.assertIs(type(caught.exception), kind)
        self.assertEqual(getattr(caught.exception, field), wanted)

    def check_book(self, book):
        self.assertIs(lets_book(RULE, book), True)


class TestOpened(DeedCase):
    def test_the_first_matter(self):
        told = opened(RULE, FIRST, (EVE, ANN), day=3)
        rows = (((EVE, ANN), (0, 0), "elm", "elm", 0, 10, True),)
        wanted = (A, None, (EVE, ANN), (EVE, ANN), (), (), None)
        self.assertEqual(told, ("elm", 0, (0, 0, rows), (wanted,), (((EVE, ANN), A, 3),)))
        self.assertEqual(opened(rule=RULE, book=FIRST, hands=(EVE, ANN), day=3, lower=None), told)
        self.check_book(told)

    def test_no_hands_and_one(self):
        told = opened_by(())
        self.assertEqual(told[3], ((A, None, (), (), (), (), None),))
        self.assertEqual((told[2], told[4]), (FIRST[2], ()))
        # One hand needs no right, wherever it is at home.
        self.assertEqual(opened_by((BOB,))[3], ((A, None, (BOB,), (BOB,), (), (), None),))

    def test_names_count_within_a_rise(self):
        book = opened_by((), opened_by(()))
        self.assertEqual([one[0] for one in book[3]], [A, B])
        book = opened_by((), risen(book, rise=4))
        book = opened_by((), book)
        self.assertEqual([one[0] for one in book[3]], [A, B, ("elm", 4, 0), ("elm", 4, 1)])
        self.check_book(book)
        oak = opened(RULE, first_book("oak"), (), day=0)
        self.assertEqual(oak[3][0][0], ("oak", 0, 0))

    def with_verdict(self, verdict="yes"):
        book = opened_by((EVE, ANN))
        return voted(RULE, voted(RULE, book, A, EVE, verdict=verdict), A, ANN, verdict=verdict)

    def test_an_appeal(self):
        for verdict in ("yes", "no"):
            book = self.with_verdict(verdict)
            told = opened(RULE, book, (ANN,), day=1, lower=A)
            self.assertEqual(matter(told, B), (B, A, (ANN,), (ANN,), (), (), None))
            self.assertEqual(matter(told, A), matter(book, A))
            self.assertEqual((told[2], told[4]), (book[2], book[4]))
            self.check_book(told)

    def test_an_appeal_burns_for_the_root(self):
        book = self.with_verdict()
        told = opened(RULE, book, (DAN,), day=5, lower=A)
        self.assertEqual(told[4], (((EVE, ANN), A, 0), ((EVE, DAN), A, 5), ((ANN, DAN), A, 5)))
        self.check_book(told)
        # Abe and Eve are both of ash: their right is at home there.
        self.refused(NoRight, "pair", (ABE, EVE), opened, RULE, book, (ABE,), day=5, lower=A)

    def test_the_lower_one(self):
        book = opened_by((EVE, ANN))
        for lower in (A, NOBODY):
            self.refused(NoMatter, "word", "lower", opened, RULE, book, (), day=0, lower=lower)
        for ended in (laid(book, A), risen(book, rise=1)):
            self.refused(NoMatter, "word", "lower", opened, RULE, ended, (), day=0, lower=A)

    def test_full(self):
        self.refused(NoMatter, "word", "full", opened, RULE, FIRST, (EVE, ANN, DAN, BOB), day=0)
        self.refused(NoMatter, "word", "lower", opened, RULE, FIRST, (EVE, ANN, DAN, BOB), day=0, lower=A)
        wide = (RULE[0], 5, 3, 7)
        self.refused(NoRight, "why", "oak", opened, wide, FIRST, (EVE, ANN, DAN, BOB), day=0)
        self.assertEqual(opened(RULE, FIRST, (EVE, ANN, DAN), day=0)[3][0][2], (EVE, ANN, DAN))

    def test_no_right(self):
        self.refused(NoRight, "pair", (EVE, BOB), opened, RULE, FIRST, (EVE, ANN, BOB), day=0)
        book = opened_by((EVE, ANN, DAN))
        self.refused(NoRight, "pair", (EVE, ANN), opened, RULE, book, (EVE, ANN), day=6)
        self.refused(NoRight, "why", 7, opened, RULE, book, (EVE, ANN), day=6)
        self.check_book(opened_by((EVE, ANN), book, day=7))

    def test_a_refusal_of_the_later_pair(self):
        book = opened_by((ANN, DAN))
        self.refused(NoRight, "pair", (ANN, DAN), opened, RULE, book, (EVE, ANN, DAN), day=3)

    def test_day_and_lower_go_by_name_alone(self):
        with self.assertRaises(TypeError):
            opened(RULE, FIRST, (), 0)
        with self.assertRaises(TypeError):
            opened(RULE, FIRST, ())


class TestSeated(DeedCase):
    def test_seated(self):
        book = opened_by((EVE,), day=2)
        told = seated(RULE, book, A, DAN, day=4)
        self.assertEqual(matter(told, A), (A, None, (EVE, DAN), (EVE, DAN), (), (), None))
        self.assertEqual(told[4], (((EVE, DAN), A, 4),))
        self.assertEqual(told[2], (0, 0, (((EVE, DAN), (0, 0), "elm", "elm", 0, 11, True),)))
        self.assertEqual(seated(rule=RULE, book=book, name=A, hand=DAN, day=4), told)
        told = seated(RULE, told, A, ANN, day=5)
        self.assertEqual(matter(told, A)[2:4], ((EVE, ANN, DAN), (EVE, ANN, DAN)))
        self.check_book(told)

    def test_again_behind_leaving(self):
        book = opened_by((EVE, ANN))
        told = seated(RULE, left(book, A, ANN), A, ANN, day=0)
        self.assertEqual(told, book)

    def test_refusals_in_their_order(self):
        book = opened_by((EVE, ANN, DAN))
        self.refused(NoName, "name", NOBODY, seated, RULE, book, NOBODY, EVE, day=0)
        self.refused(NoMatter, "word", "end", seated, RULE, laid(book, A), A, EVE, day=0)
        self.refused(NoMatter, "word", "end", seated, RULE, laid(book, A), A, BOB, day=0)
        self.refused(NoMatter, "word", "there", seated, RULE, book, A, DAN, day=0)
        self.refused(NoMatter, "word", "full", seated, RULE, book, A, BOB, day=0)
        fewer = left(book, A, EVE)
        self.refused(NoRight, "pair", (EVE, BOB), seated, RULE, fewer, A, BOB, day=0)
        self.refused(NoRight, "why", "oak", seated, RULE, fewer, A, BOB, day=0)
        self.refused(NoMatter, "word", "there", seated, RULE, fewer, A, ANN, day=0)

    def test_who_left_stays_a_voice(self):
        # Bob would meet Ann, who left, and their right is in oak.
        book = left(opened_by((ANN,)), A, ANN)
        self.refused(NoRight, "pair", (ANN, BOB), seated, RULE, book, A, BOB, day=0)


class TestLeft(DeedCase):
    def test_no_seat_no_vote_but_a_voice(self):
        book = voted(RULE, opened_by((EVE, ANN)), A, ANN)
        told = left(book, A, ANN)
        self.assertEqual(matter(told, A), (A, None, (EVE,), (EVE, ANN), (), (), None))
        self.assertEqual((told[2], told[4]), (book[2], book[4]))
        self.assertEqual(left(book=book, name=A, hand=ANN), told)
        self.check_book(told)

    def test_another_ones_vote_stays(self):
        book = voted(RULE, opened_by((EVE, ANN)), A, EVE, verdict="no")
        self.assertEqual(matter(left(book, A, ANN), A)[2:6], ((EVE,), (EVE, ANN), (), ((EVE, "no"),)))

    def test_refusals_in_their_order(self):
        book = opened_by((EVE, ANN))
        self.refused(NoName, "name", NOBODY, left, book, NOBODY, DAN)
        self.refused(NoMatter, "word", "end", left, laid(book, A), A, DAN)
        self.refused(NoMatter, "word", "end", left, laid(book, A), A, ANN)
        self.refused(NoHand, "hand", DAN, left, book, A, DAN)
        self.refused(NoHand, "hand", ANN, left, left(book, A, ANN), A, ANN)


class TestVoted(DeedCase):
    def test_a_vote(self):
        book = opened_by((EVE, ANN, DAN))
        told = voted(RULE, book, A, ANN)
        self.assertEqual(matter(told, A)[5:], (((ANN, "yes"),), None))
        told = voted(RULE, told, A, EVE, verdict="no")
        self.assertEqual(matter(told, A)[5:], (((EVE, "no"), (ANN, "yes")), None))
        self.assertEqual(voted(rule=RULE, book=book, name=A, hand=ANN, verdict="yes"), voted(RULE, book, A, ANN))
        self.check_book(told)

    def test_just_as_many_as_are_needed(self):
        for verdict in ("yes", "no"):
            book = voted(RULE, opened_by((EVE, ANN, DAN)), A, DAN, verdict=verdict)
            told = voted(RULE, book, A, EVE, verdict=verdict)
            self.assertEqual(matter(told, A)[5:], (((EVE, verdict), (DAN, verdict)), verdict))
            # Seats and votes stay as they are.
            self.assertEqual(matter(told, A)[2:4], ((EVE, ANN, DAN), (EVE, ANN, DAN)))
            self.assertEqual((told[2], told[4]), (book[2], book[4]))
            self.check_book(told)
        wide = (RULE[0], 3, 3, 7)
        book = opened(wide, FIRST, (EVE, ANN, DAN), day=0)
        for hand, end in ((EVE, None), (DAN, None), (ANN, "yes")):
            book = voted(wide, book, A, hand)
            self.assertEqual(matter(book, A)[6], end)

    def test_in_the_stead_of_the_former_one(self):
        book = voted(RULE, opened_by((EVE, ANN, DAN)), A, EVE)
        self.assertEqual(voted(RULE, book, A, EVE), book)
        told = voted(RULE, book, A, EVE, verdict="no")
        self.assertEqual(matter(told, A)[5:], (((EVE, "no"),), None))
        told = voted(RULE, told, A, DAN)
        self.assertIsNone(matter(told, A)[6])
        told = voted(RULE, told, A, EVE)
        self.assertEqual(matter(told, A)[5:], (((EVE, "yes"), (DAN, "yes")), "yes"))

    def test_who_left_has_no_vote(self):
        book = voted(RULE, opened_by((EVE, ANN, DAN)), A, EVE)
        told = voted(RULE, left(book, A, EVE), A, ANN)
        self.assertIsNone(matter(told, A)[6])

    def test_refusals_in_their_order(self):
        book = opened_by((EVE, ANN))
        ended = voted(RULE, voted(RULE, book, A, EVE), A, ANN)
        self.refused(NoName, "name", NOBODY, voted, RULE, book, NOBODY, DAN)
        for hand in (EVE, DAN):
            self.refused(NoMatter, "word", "end", voted, RULE, ended, A, hand)
            self.refused(NoMatter, "word", "end", voted, RULE, laid(book, A), A, hand, verdict="no")
        self.refused(NoHand, "hand", DAN, voted, RULE, book, A, DAN)
        # A voice that has no seat any more.
        self.refused(NoHand, "hand", ANN, voted, RULE, left(book, A, ANN), A, ANN)

    def test_the_verdict_goes_by_name_alone(self):
        with self.assertRaises(TypeError):
            voted(RULE, opened_by((EVE, ANN)), A, EVE, "yes")


class TestLaidAndRisen(DeedCase):
    def test_laid(self):
        book = voted(RULE, opened_by((EVE, ANN)), A, ANN, verdict="no")
        told = laid(book, A)
        self.assertEqual(matter(told, A), matter(book, A)[:6] + ("laid",))
        self.assertEqual((told[:3], told[4]), (book[:3], book[4]))
        self.assertEqual(laid(book=book, name=A), told)
        self.check_book(told)
        self.refused(NoName, "name", NOBODY, laid, book, NOBODY)
        self.refused(NoMatter, "word", "end", laid, told, A)
        self.refused(NoMatter, "word", "end", laid, risen(book, rise=1), A)

    def test_risen_breaks_what_is_open_and_nothing_else(self):
        book = opened_by((EVE, ANN, DAN))
        book = opened_by((), laid(opened_by((), book), B))
        book = voted(RULE, voted(RULE, book, A, DAN, verdict="no"), A, EVE, verdict="no")
        book = opened_by((BOB,), book)
        self.assertEqual([one[6] for one in book[3]], ["no", "laid", None, None])
        told = risen(book, rise=3)
        self.assertEqual([one[6] for one in told[3]], ["no", "laid", "broken", "broken"])
        self.assertEqual([one[:6] for one in told[3]], [one[:6] for one in book[3]])
        self.assertEqual((told[0], told[1], told[2], told[4]), ("elm", 3, book[2], book[4]))
        self.assertEqual(risen(book=book, rise=3), told)
        self.check_book(told)
        later = risen(told, rise=4)
        self.assertEqual(later, told[:1] + (4,) + told[2:])

    def test_risen_without_matters(self):
        self.assertEqual(risen(FIRST, rise=1), ("elm", 1, (0, 0, ()), (), ()))

    def test_an_appeal_behind_a_rise(self):
        book = opened_by((EVE, ANN))
        book = risen(voted(RULE, voted(RULE, book, A, EVE), A, ANN), rise=2)
        told = opened(RULE, book, (ANN,), day=0, lower=A)
        self.assertEqual(told[3][1][:2], (("elm", 2, 0), A))
        self.check_book(told)

    def test_names_alone(self):
        with self.assertRaises(TypeError):
            risen(FIRST, 1)
        with self.assertRaises(TypeError):
            seated(RULE, opened_by(()), A, EVE, 0)


if __name__ == "__main__":
    unittest.main()
