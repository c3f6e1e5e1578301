import unittest

from samples import ANN, BOB, CAT, DAN, EVE, RULE
from strangerbench.bookchecker import lets_book
from strangerbench.errors import NoMatter, NoName, NoRight
from strangerbench.letting import each_alone, lacks, let_in

A = ("elm", 0, 0)
B = ("elm", 0, 1)
C = ("elm", 1, 0)
D = ("elm", 1, 1)
NOBODY = ("elm", 1, 2)


def mine(pair, free):
    """A row of a right that lies at elm."""
    return (pair, (0, 1), "elm", "elm", 0, free, True)


ROWS = (
    mine((EVE, ANN), 30),
    mine((EVE, DAN), 0),
    mine((ANN, DAN), 25),
    mine((ANN, BOB), 7),
    ((ANN, CAT), (0, 1), "elm", "oak", 0, 0, False),
    mine((DAN, BOB), 12),
)
ENDED = (A, None, (ANN, BOB), (ANN, BOB), (), ((ANN, "yes"), (BOB, "yes")), "yes")
APPEAL = (B, A, (), (), (), (), None)
ALONE = (C, None, (ANN,), (ANN,), (), (), None)
BROKEN = (D, None, (EVE,), (EVE,), (), (), "broken")
BOOK = ("elm", 1, (0, 0, ROWS), (ENDED, APPEAL, ALONE, BROKEN), (((ANN, BOB), A, 0),))


class TestLacks(unittest.TestCase):
    def lack(self, name, hands, day, book=BOOK):
        told = lacks(RULE, book, name, hands, day=day)
        if told is None:
            return None
        self.assertIs(type(told), tuple)
        with self.assertRaises(NoRight) as caught:
            let_in(RULE, book, name, hands, day=day)
        self.assertEqual((caught.exception.pair, caught.exception.why), told)
        return told

    def test_the_book_holds_together(self):
        self.assertIs(lets_book(RULE, BOOK), True)

    def test_burnt_for_this_root_already(self):
        # Ann and Bob are burnt for the root of the appeal; their right isn't free again before day 7.
        self.assertIsNone(self.lack(B, (ANN, BOB), 0))
        self.assertIsNone(self.lack(B, (ANN,), 0))
        self.assertIsNone(self.lack(B, (), 0))

    def test_burnt_for_another_root(self):
        self.assertEqual(self.lack(C, (BOB,), 6), ((ANN, BOB), 7))
        self.assertIsNone(self.lack(C, (BOB,), 7))

    def test_the_voices_of_the_lower_one_count(self):
        # Dan meets Ann and Bob, who are voices of the root alone.
        self.assertEqual(self.lack(B, (DAN,), 24), ((ANN, DAN), 25))
        self.assertIsNone(self.lack(B, (DAN,), 25))

    def test_not_mine(self):
        self.assertEqual(self.lack(C, (CAT,), 99), ((ANN, CAT), "elm"))
        self.assertEqual(self.lack(C, (EVE, BOB), 99), ((EVE, BOB), "oak"))

    def test_the_first_pair_as_they_rise(self):
        hands = (EVE, DAN, BOB)
        self.assertEqual(self.lack(C, hands, 0), ((EVE, ANN), 30))
        self.assertEqual(self.lack(C, hands, 30), ((EVE, BOB), "oak"))
        self.assertEqual(self.lack(B, (DAN, CAT), 0), ((ANN, DAN), 25))
        self.assertEqual(self.lack(B, (DAN, CAT), 25), ((ANN, CAT), "elm"))
        self.assertEqual(self.lack(C, (DAN, BOB), 6), ((ANN, DAN), 25))
        later = BOOK[:2] + ((0, 0, (mine((ANN, DAN), 0), mine((ANN, BOB), 7), mine((DAN, BOB), 12))),) + BOOK[3:]
        self.assertEqual(self.lack(C, (DAN, BOB), 6, later), ((ANN, BOB), 7))
        self.assertEqual(self.lack(C, (DAN, BOB), 7, later), ((DAN, BOB), 12))
        self.assertIsNone(self.lack(C, (DAN, BOB), 12, later))

    def test_no_hands_and_voices_already(self):
        for day in (0, 50):
            self.assertIsNone(self.lack(C, (), day))
            self.assertIsNone(self.lack(C, (ANN,), day))

    def test_by_names(self):
        self.assertEqual(lacks(rule=RULE, book=BOOK, name=C, hands=(BOB,), day=6), ((ANN, BOB), 7))
        with self.assertRaises(TypeError):
            lacks(RULE, BOOK, C, (BOB,), 6)

    def test_refusals(self):
        for act in (lacks, let_in, each_alone):
            for hands in ((), (ANN,), (EVE, CAT)):
                with self.assertRaises(NoName) as caught:
                    act(RULE, BOOK, NOBODY, hands, day=0)
                self.assertEqual(caught.exception.name, NOBODY)
                for name in (A, D):
                    with self.assertRaises(NoMatter) as caught:
                        act(RULE, BOOK, name, hands, day=0)
                    self.assertEqual(caught.exception.word, "end")


class TestLetIn(unittest.TestCase):
    def test_voices_rights_and_burnings(self):
        told = let_in(RULE, BOOK, C, (DAN, BOB), day=25)
        rows = (
            ROWS[0], ROWS[1], mine((ANN, DAN), 32), mine((ANN, BOB), 32), ROWS[4], mine((DAN, BOB), 32),
        )
        matters = (ENDED, APPEAL, (C, None, (ANN,), (ANN, DAN, BOB), (), (), None), BROKEN)
        burnings = (((ANN, DAN), C, 25), ((ANN, BOB), A, 0), ((ANN, BOB), C, 25), ((DAN, BOB), C, 25))
        self.assertEqual(told, ("elm", 1, (0, 0, rows), matters, burnings))
        self.assertIs(lets_book(RULE, told), True)
        self.assertEqual(let_in(rule=RULE, book=BOOK, name=C, hands=(DAN, BOB), day=25), told)

    def test_burnt_for_the_root(self):
        told = let_in(RULE, BOOK, B, (ANN, DAN), day=25)
        self.assertEqual(told[3][1], (B, A, (), (ANN, DAN), (), (), None))
        self.assertEqual(told[4], (((ANN, DAN), A, 25), ((ANN, BOB), A, 0), ((DAN, BOB), A, 25)))
        # Ann and Bob were burnt for it ahead: their right isn't burnt again.
        self.assertEqual([row[5] for row in told[2][2]], [30, 0, 32, 7, 0, 32])
        self.assertIs(lets_book(RULE, told), True)

    def test_a_right_without_a_row(self):
        alice = ("ash", "zoe")
        told = let_in(RULE, BOOK, C, (alice,), day=3)
        self.assertIn(((alice, ANN), (0, 0), "elm", "elm", 0, 10, True), told[2][2])
        self.assertEqual(len(told[2][2]), 7)
        self.assertEqual(lacks(RULE, told, C, (alice, BOB), day=6), ((alice, BOB), "oak"))

    def test_nobody_new(self):
        self.assertEqual(let_in(RULE, BOOK, C, (), day=3), BOOK)
        self.assertEqual(let_in(RULE, BOOK, C, (ANN,), day=3), BOOK)

    def test_a_voice_of_the_lower_one_becomes_the_matters_own(self):
        told = let_in(RULE, BOOK, B, (ANN,), day=3)
        self.assertEqual(told[3][1][3], (ANN,))
        self.assertEqual((told[2], told[4]), (BOOK[2], BOOK[4]))

    def test_twice_burnt_is_a_span_apart(self):
        once = let_in(RULE, BOOK, C, (BOB,), day=7)
        self.assertEqual(once[4], (((ANN, BOB), A, 0), ((ANN, BOB), C, 7)))
        self.assertIs(lets_book(RULE, once), True)


class TestEachAlone(unittest.TestCase):
    def test_each_by_itself(self):
        told = each_alone(RULE, BOOK, C, (EVE, ANN, DAN, BOB, CAT), day=25)
        self.assertEqual(told, (
            (EVE, ((EVE, ANN), 30)), (ANN, None), (DAN, None), (BOB, None), (CAT, ((ANN, CAT), "elm")),
        ))
        self.assertIs(type(told), tuple)
        self.assertIs(type(told[0]), tuple)
        self.assertEqual(each_alone(rule=RULE, book=BOOK, name=C, hands=(BOB,), day=6), ((BOB, ((ANN, BOB), 7)),))

    def test_like_lacks_of_one(self):
        for name in (B, C):
            for day in (0, 7, 12, 25, 30):
                for hand, lack in each_alone(RULE, BOOK, name, (EVE, ANN, DAN, BOB, CAT), day=day):
                    self.assertEqual(lack, lacks(RULE, BOOK, name, (hand,), day=day))

    def test_voices_of_the_path_lack_nothing(self):
        self.assertEqual(each_alone(RULE, BOOK, B, (ANN, BOB), day=0), ((ANN, None), (BOB, None)))
        self.assertEqual(each_alone(RULE, BOOK, B, (), day=0), ())


if __name__ == "__main__":
    unittest.main()
