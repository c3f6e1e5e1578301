import random
import unittest

from noted import A, B, C, D, E, X, Y, matter, note
from samples import ANN, BOB, CAT, DAN, EVE, HANDS, all_tuples, refusal
from strangerbench.paths import path_voices
from strangerbench.sourcechecker import lets_source
from strangerbench.sources import source_of

NOBODY = ("elm", 9, 9)


def follows(matters, one, other, hand):
    """Whether the other name may follow the one, as point 48 tells it."""
    for name, lower, _, _, notes, _, _ in matters:
        if name == one and (lower == other or [told for told in notes if told[0] == other and hand in told[1]]):
            return True
    return False


def ends(matters, name, hand):
    """By which word a source may end at the name, as points 48 and 49 tell it."""
    for one, _, _, voices, notes, _, _ in matters:
        if one == name:
            return "sat" if hand in voices and not [told for told in notes if hand in told[1]] else None
    return "heard"


class TestSourceOf(unittest.TestCase):
    def tell(self, matters, name, hand):
        """What is told: it is let by, and is as the words have it."""
        before = repr((matters, name, hand))
        told = source_of(matters, name, hand)
        self.assertEqual(source_of(matters=matters, name=name, hand=hand), told)
        if told is not None:
            self.assertIs(all_tuples(told), True)
            self.assertEqual(told[0], name)
            for one, other in zip(told, told[1:]):
                self.assertTrue(follows(matters, one, other, hand))
            self.assertEqual(lets_source(matters, name, hand, told), ends(matters, told[-1], hand))
        self.assertEqual(repr((matters, name, hand)), before)
        return told

    def test_of_one_name(self):
        matters = (matter(A, voices=(ANN, DAN)), matter(B, [note(X, voices=(BOB,))], voices=(ANN, BOB)))
        self.assertEqual(self.tell(matters, A, ANN), (A,))
        self.assertEqual(self.tell(matters, B, ANN), (B,))

    def test_of_no_voice(self):
        matters = (matter(A, voices=(ANN,)), matter(B, [note(X, voices=(ANN,))], voices=(ANN, BOB)), matter(C))
        for name, hand in ((A, BOB), (B, DAN), (C, ANN), (C, EVE), (A, ("fir", "abe"))):
            self.assertIsNone(self.tell(matters, name, hand))

    def test_through_a_lower_one(self):
        matters = (matter(A, voices=(ANN,)), matter(B, lower=A, voices=(DAN,)), matter(C, lower=B, voices=(BOB,)))
        self.assertEqual(self.tell(matters, C, ANN), (C, B, A))
        self.assertEqual(self.tell(matters, C, DAN), (C, B))
        self.assertEqual(self.tell(matters, C, BOB), (C,))
        self.assertIsNone(self.tell(matters, C, CAT))

    def test_through_a_note(self):
        # Ann is a voice of B by the note alone, though she might have had a seat, too.
        matters = (matter(A, voices=(ANN, DAN)), matter(B, [note(A, voices=(ANN, DAN))], voices=(ANN, DAN, BOB)),
                   matter(C, [note(B, voices=(ANN, DAN, BOB))], voices=(ANN, DAN, BOB)))
        self.assertEqual(self.tell(matters, B, ANN), (B, A))
        self.assertEqual(self.tell(matters, C, ANN), (C, B, A))
        self.assertEqual(self.tell(matters, C, BOB), (C, B))

    def test_at_a_name_that_none_has(self):
        matters = (matter(A, [note(X, voices=(ANN,)), note(Y, voices=(BOB,))], voices=(ANN, BOB)),
                   matter(B, lower=A), matter(C, [note(B, voices=(ANN,))], voices=(ANN,)))
        self.assertEqual(self.tell(matters, A, ANN), (A, X))
        self.assertEqual(self.tell(matters, A, BOB), (A, Y))
        self.assertEqual(self.tell(matters, C, ANN), (C, B, A, X))
        self.assertEqual(lets_source(matters, C, ANN, (C, B, A, X)), "heard")

    def test_through_a_note_of_a_lower_one(self):
        matters = (matter(A, voices=(EVE,)), matter(B, [note(A, voices=(EVE,))], voices=(EVE,)), matter(C, lower=B))
        self.assertEqual(self.tell(matters, C, EVE), (C, B, A))

    def test_not_through_a_note_without_the_hand(self):
        matters = (matter(A, voices=(ANN,)), matter(B, [note(A, voices=(DAN,)), note(X, voices=(DAN,))], voices=(DAN,)))
        self.assertIsNone(self.tell(matters, B, ANN))

    def test_notes_that_go_round(self):
        matters = (matter(A, [note(B, voices=(ANN,))], voices=(ANN,)),
                   matter(B, [note(A, voices=(ANN,))], voices=(ANN,)))
        self.assertIsNone(self.tell(matters, A, ANN))
        self.assertIsNone(self.tell(matters, B, ANN))
        own = (matter(A, [note(A, voices=(ANN,))], voices=(ANN,)),)
        self.assertIsNone(self.tell(own, A, ANN))
        # There is one way out.
        more = matters[:1] + (matter(B, [note(A, voices=(ANN,)), note(C, voices=(ANN,))], voices=(ANN,)),
                              matter(C, [note(B)], voices=(ANN,)))
        self.assertEqual(self.tell(more, A, ANN), (A, B, C))
        self.assertEqual(self.tell(more, C, ANN), (C,))

    def test_several_notes_of_one_name(self):
        matters = (matter(A, [note(X, "no", (ANN,)), note(X, "yes", (BOB,))], voices=(ANN, BOB)),)
        for hand in (ANN, BOB):
            self.assertEqual(self.tell(matters, A, hand), (A, X))

    def test_a_name_that_none_has(self):
        matters = (matter(A, [note(X, voices=(ANN,))], voices=(ANN,)),)
        for name in (NOBODY, X):
            for hand in (ANN, BOB):
                self.assertEqual(refusal(source_of, matters, name, hand), ("NoName", name))
                self.assertEqual(refusal(source_of, (), name, hand), ("NoName", name))

    def test_any_matters(self):
        chance = random.Random(48)
        names = [("elm", 0, number) for number in range(6)]
        words = []
        for _ in range(150):
            matters = []
            for name in names:
                notes = {note(chance.choice(names + [X]), chance.choice(("yes", "no")),
                              tuple(sorted(chance.sample(HANDS, chance.randrange(4)))))
                         for _ in range(chance.randrange(3))}
                lower = chance.choice([one[0] for one in matters] + [None])
                matters.append(matter(name, notes, lower=lower,
                                      voices=tuple(sorted(chance.sample(HANDS, chance.randrange(4))))))
            matters = tuple(matters)
            for name in names:
                for hand in HANDS:
                    told = self.tell(matters, name, hand)
                    reached = {name}
                    for _ in range(len(names) + 1):
                        reached |= {two for one in reached for two in names + [X] if follows(matters, one, two, hand)}
                    ways = {ends(matters, one, hand) for one in reached} - {None}
                    self.assertEqual(told is None, not ways)
                    words.append(told and ends(matters, told[-1], hand))
        for word in (None, "sat", "heard"):
            self.assertGreater(words.count(word), 100)

    def test_voices_of_a_path(self):
        # Where notes have all voices of their path, each voice has a source, and no other hand has one.
        chance = random.Random(49)
        for _ in range(80):
            matters = []
            for number in range(8):
                lower = chance.choice([one[0] for one in matters] + [None])
                sitters = set(chance.sample(HANDS, chance.randrange(3)))
                notes = [note(one[0], voices=path_voices(tuple(matters), one[0]))
                         for one in chance.sample(matters, min(len(matters), chance.randrange(3)))]
                heard = {hand for told in notes for hand in told[1]}
                matters.append(matter(("elm", 0, number), notes, lower=lower, voices=tuple(sorted(sitters | heard))))
            matters = tuple(matters)
            for one in matters:
                for hand in HANDS:
                    voice = hand in path_voices(matters, one[0])
                    self.assertEqual(self.tell(matters, one[0], hand) is not None, voice)


if __name__ == "__main__":
    unittest.main()
