import random
import unittest

from samples import ANN, BOB, CAT, DAN, EVE, HANDS, RULE, all_tuples, refusal
from strangerbench.errors import BenchError, LackError
from strangerbench.handpairs import pairs_of
from strangerbench.letting import lacks
from strangerbench.matterkinds import are_burnings
from strangerbench.notes import note_of
from strangerbench.paths import path_voices
from strangerbench.records import bar_told, burnings_told, names_told, voices_told, votes_told
from strangerbench.townrows import done

A, B, C, D = [("elm", 2, number) for number in range(4)]
NOBODY = ("elm", 2, 4)
NOTE = (("oak", 0, 0), (DAN, BOB), "no")
DEEDS = (
    ("open", 3, None, (EVE, ANN)),
    ("open", 3, None, ()),
    ("vote", A, EVE, "no"),
    ("seat", 5, A, DAN),
    ("vote", A, EVE, "yes"),
    ("vote", A, DAN, "no"),
    ("leave", A, DAN),
    ("vote", A, ANN, "yes"),
    ("note", 6, B, NOTE),
    ("open", 8, A, (ANN,)),
    ("seat", 9, C, BOB),
    ("lay", B),
    ("open", 9, None, (ANN, CAT)),
)
RECORD = ("elm", 2, DEEDS)


class TestTold(unittest.TestCase):
    def test_names(self):
        self.assertEqual(names_told(RECORD), (A, B, C, D))
        self.assertEqual(names_told(record=("oak", 0, DEEDS[:2])), (("oak", 0, 0), ("oak", 0, 1)))
        self.assertEqual(names_told(("elm", 2, ())), ())
        many = ("elm", 0, (("open", 0, None, ()),) * 12)
        self.assertEqual(names_told(many), tuple([("elm", 0, number) for number in range(12)]))
        self.assertIs(all_tuples(names_told(RECORD)), True)

    def test_voices_of_the_path(self):
        self.assertEqual(voices_told(RECORD, A), (EVE, ANN, DAN))
        self.assertEqual(voices_told(RECORD, B), (DAN, BOB))
        self.assertEqual(voices_told(record=RECORD, name=C), (EVE, ANN, DAN, BOB))
        self.assertEqual(voices_told(("elm", 2, DEEDS[:1]), A), (EVE, ANN))
        self.assertIs(all_tuples(voices_told(RECORD, C)), True)

    def test_votes(self):
        self.assertEqual(votes_told(RECORD, A), ((EVE, "yes"), (ANN, "yes")))
        self.assertEqual(votes_told(record=RECORD, name=B), ())
        self.assertEqual(votes_told(("elm", 2, DEEDS[:6]), A), ((EVE, "yes"), (DAN, "no")))
        self.assertEqual(votes_told(("elm", 2, DEEDS[:3]), A), ((EVE, "no"),))
        self.assertIs(all_tuples(votes_told(RECORD, A)), True)

    def test_burnings(self):
        told = burnings_told(RECORD)
        self.assertEqual(told, tuple(sorted([
            ((EVE, ANN), A, 3), ((EVE, DAN), A, 5), ((ANN, DAN), A, 5), ((DAN, BOB), B, 6),
            # Those of the appeal are for its root; Dan and Bob are burnt for both.
            ((EVE, BOB), A, 9), ((ANN, BOB), A, 9), ((DAN, BOB), A, 9), ((ANN, CAT), D, 9),
        ])))
        self.assertIs(are_burnings(told), True)
        self.assertEqual(burnings_told(record=("elm", 2, DEEDS[:2])), (((EVE, ANN), A, 3),))
        self.assertEqual(burnings_told(("elm", 2, ())), ())

    def test_the_first_day_of_each_pair_and_root(self):
        record = ("elm", 0, (
            ("open", 0, None, (EVE, ANN)), ("vote", ("elm", 0, 0), EVE, "yes"), ("vote", ("elm", 0, 0), ANN, "yes"),
            ("open", 4, ("elm", 0, 0), (EVE, DAN)), ("open", 9, ("elm", 0, 0), (EVE, ANN, DAN)),
        ))
        root = ("elm", 0, 0)
        self.assertEqual(burnings_told(record), (((EVE, ANN), root, 0), ((EVE, DAN), root, 4), ((ANN, DAN), root, 4)))

    def test_a_name_that_it_does_not_open(self):
        for record in (RECORD, ("elm", 2, ())):
            for name in (NOBODY, ("elm", 0, 0), ("oak", 2, 0)):
                self.assertEqual(refusal(voices_told, record, name), ("NoName", name))
                self.assertEqual(refusal(votes_told, record, name), ("NoName", name))
                self.assertEqual(refusal(bar_told, record, name, (), day=0, span=7), ("NoName", name))


class TestBar(unittest.TestCase):
    def bar(self, name, hands, day, span=7):
        told = bar_told(RECORD, name, hands, day=day, span=span)
        self.assertEqual(bar_told(record=RECORD, name=name, hands=hands, day=day, span=span), told)
        self.assertIs(all_tuples(told), True)
        return told

    def test_just_the_day_and_a_day_to_each_side(self):
        # Eve and Ann are burnt on day 3 for A; here they are asked for in D, where Ann sits.
        self.assertEqual(self.bar(D, (EVE,), 9), ((EVE, ANN), 10))
        self.assertIsNone(self.bar(D, (EVE,), 10))
        self.assertIsNone(self.bar(D, (EVE,), 11))
        self.assertEqual(self.bar(D, (EVE,), 10, span=8), ((EVE, ANN), 11))
        self.assertEqual(self.bar(D, (EVE,), 3, span=1), ((EVE, ANN), 4))
        self.assertIsNone(self.bar(D, (EVE,), 4, span=1))

    def test_burnt_on_a_later_day(self):
        for day in (0, 2, 5):
            self.assertEqual(self.bar(D, (EVE,), day), ((EVE, ANN), 10))
        self.assertEqual(self.bar(D, (DAN,), 0, span=1), ((ANN, DAN), 6))

    def test_the_last_burning_of_several(self):
        # Dan and Bob are burnt on days 6 and 9: for B, where they would meet, and for A.
        self.assertIsNone(self.bar(B, (DAN, BOB), 7))
        record = ("elm", 2, DEEDS + (("open", 9, None, (DAN,)),))
        told = bar_told(record, ("elm", 2, 4), (BOB,), day=9, span=3)
        self.assertEqual(told, ((DAN, BOB), 12))
        self.assertIsNone(bar_told(record, ("elm", 2, 4), (BOB,), day=12, span=3))

    def test_the_first_pair_as_they_rise(self):
        self.assertEqual(self.bar(D, (EVE, DAN, BOB), 0), ((EVE, ANN), 10))
        self.assertEqual(self.bar(D, (EVE, DAN, BOB), 10), ((EVE, DAN), 12))
        self.assertEqual(self.bar(D, (EVE, DAN, BOB), 12), ((EVE, BOB), 16))
        self.assertIsNone(self.bar(D, (EVE, DAN, BOB), 16))

    def test_whatever_its_end(self):
        # B is laid down, A has a verdict: for both it is told all the same.
        self.assertEqual(self.bar(B, (ANN,), 6), ((ANN, DAN), 12))
        self.assertIsNone(self.bar(A, (BOB,), 0))
        self.assertIsNone(self.bar(A, (CAT,), 99))

    def test_the_voices_of_the_path(self):
        # In the appeal the voices of the root count, and what is burnt for the root.
        self.assertIsNone(self.bar(C, (EVE, DAN), 0))
        self.assertEqual(self.bar(C, (CAT,), 15), ((ANN, CAT), 16))
        self.assertIsNone(self.bar(C, (CAT,), 16))

    def test_no_hands_and_never_burnt(self):
        self.assertIsNone(self.bar(D, (), 0))
        record = ("elm", 0, (("open", 0, None, (ANN,)),))
        for hands in ((), (ANN,), (EVE, DAN, BOB)):
            self.assertIsNone(bar_told(record, ("elm", 0, 0), hands, day=0, span=7))

    def test_day_and_span_go_by_name_alone(self):
        with self.assertRaises(TypeError):
            bar_told(RECORD, D, (EVE,), 9, 7)


class TestLikeABook(unittest.TestCase):
    """Point 36: a book at which all rights are is just what its record tells."""

    def setUp(self):
        self.chance = random.Random(36)
        rows = [(pair, (0, 1), "elm", "elm", 0, 0, True) for pair in pairs_of(HANDS)]
        self.first = ("elm", 3, (0, 0, tuple(rows)), (), ())

    def some_deed(self, book, day):
        chance = self.chance
        names = [matter[0] for matter in book[3]]
        ended = [matter[0] for matter in book[3] if matter[6] in ("yes", "no")]
        kind = chance.randrange(12)
        if kind < 2 or not names:
            hands = tuple(sorted(chance.sample(HANDS, chance.randrange(3))))
            return ("open", day, chance.choice(ended + [None]), hands)
        name, hand = chance.choice(names[-3:]), chance.choice(HANDS)
        if kind == 2:
            return ("leave", name, hand)
        if kind == 3 and chance.random() < 0.3:
            return ("lay", name)
        if kind < 6:
            other = (("oak", 0, chance.randrange(3)), tuple(sorted(chance.sample(HANDS, chance.randrange(3)))), "no")
            return ("note", day, name, note_of(book[3], ended[-1]) if ended and kind == 4 else other)
        if kind < 9:
            return ("seat", day, name, hand)
        return ("vote", name, hand, chance.choice(("yes", "no")))

    def check(self, book, deeds, day):
        record = ("elm", 3, tuple(deeds))
        matters = book[3]
        self.assertEqual(names_told(record), tuple([matter[0] for matter in matters]))
        self.assertEqual(burnings_told(record), book[4])
        for matter in matters:
            self.assertEqual(voices_told(record, matter[0]), path_voices(matters, matter[0]))
            self.assertEqual(votes_told(record, matter[0]), matter[5])
            if matter[6] is None:
                hands = tuple(sorted(self.chance.sample(HANDS, self.chance.randrange(4))))
                lack = lacks(RULE, book, matter[0], hands, day=day)
                self.assertEqual(bar_told(record, matter[0], hands, day=day, span=RULE[3]), lack)

    def test_rows_of_deeds(self):
        words = {}
        for _ in range(60):
            book, deeds, day = self.first, [], 0
            for _ in range(40):
                day += self.chance.randrange(3)
                deed = self.some_deed(book, day)
                try:
                    book, _ = done(RULE, book, deed)
                except (BenchError, LackError):
                    continue
                deeds.append(deed)
                words[deed[0]] = words.get(deed[0], 0) + 1
                self.check(book, deeds, day)
        for word in ("open", "seat", "note", "leave", "vote", "lay"):
            self.assertGreater(words[word], 20, word)


if __name__ == "__main__":
    unittest.main()
