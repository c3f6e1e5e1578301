import unittest

from noted import A, B, C, D, E, X, Y, matter, note
from samples import ANN, ANY_THINGS, BOB, DAN, EVE, refusal
from strangerbench.sourcechecker import lets_source

# Ann and Dan sat in A; B appeals it, and Bob sat there; C read a note of B, and one of X by Eve; D read C's.
MATTERS = (
    matter(A, voices=(ANN, DAN), end="yes"),
    matter(B, lower=A, voices=(BOB,), end="no"),
    matter(C, [note(B, "no", (ANN, DAN, BOB)), note(X, "yes", (EVE,))], voices=(EVE, ANN, DAN, BOB)),
    matter(D, [note(C, "yes", (ANN, BOB)), note(Y, "yes", (BOB,))], voices=(ANN, DAN, BOB)),
    matter(E, [note(E, "yes", (ANN,))], voices=(ANN,)),
)
# No names; True is no 1, and a list is no tuple.
NO_NAMES = (None, 0, True, "elm", ("elm", 0), ("elm", 0, 0, 0), ["elm", 0, 0], ("elm", False, 0), ("elm", 0, False),
            ("elm", 0, True), (), [], ((),), [["x"]], ANN)


class SourceCase(unittest.TestCase):
    def let_by(self, name, hand, thing, word):
        self.assertEqual(lets_source(MATTERS, name, hand, thing), word)
        self.assertEqual(lets_source(matters=MATTERS, name=name, hand=hand, thing=thing), word)

    def refused(self, name, hand, thing, word, at):
        before = repr((MATTERS, thing))
        told = refusal(lets_source, MATTERS, name, hand, thing)
        self.assertEqual(told, ("NoPaper", word, at), thing)
        self.assertIs(type(told[2]), int)
        self.assertEqual(refusal(lets_source, matters=MATTERS, name=name, hand=hand, thing=thing), told)
        self.assertEqual(repr((MATTERS, thing)), before)


class TestLetBy(SourceCase):
    def test_sat(self):
        self.let_by(A, ANN, (A,), "sat")
        self.let_by(B, BOB, (B,), "sat")
        self.let_by(B, ANN, (B, A), "sat")
        self.let_by(C, DAN, (C, B, A), "sat")
        self.let_by(D, ANN, (D, C, B, A), "sat")
        self.let_by(D, BOB, (D, C, B), "sat")
        # Dan is in no note that D read, so he sat there.
        self.let_by(D, DAN, (D,), "sat")

    def test_heard(self):
        self.let_by(C, EVE, (C, X), "heard")
        self.let_by(D, BOB, (D, Y), "heard")

    def test_a_source_that_goes_round(self):
        # It comes to no end there.
        for many in range(1, 5):
            self.refused(E, ANN, (E,) * many, "last", -1)


class TestShape(SourceCase):
    def test_any_things(self):
        for thing in ANY_THINGS:
            if type(thing) is not tuple or thing == ():
                self.refused(C, ANN, thing, "shape", -1)
            else:
                self.refused(C, ANN, thing, "first", -1)

    def test_lists(self):
        for thing in ([A], [C, B, A], "", None, (), [[A]], {}):
            self.refused(A, ANN, thing, "shape", -1)


class TestFirst(SourceCase):
    def test_another_name(self):
        for thing in ((A,), (B, A), (X,), (D, C, B), (("elm", 9, 9),), (A, C)):
            self.refused(C, ANN, thing, "first", -1)

    def test_no_names(self):
        for thing in NO_NAMES:
            for name in (A, B, E):
                self.refused(name, ANN, (thing,), "first", -1)
                # It goes ahead of all that is wrong behind it.
                self.refused(name, ANN, (thing, thing), "first", -1)
                self.refused(name, ANN, (thing, A, None), "first", -1)


class TestName(SourceCase):
    def test_no_names(self):
        for thing in NO_NAMES:
            self.refused(B, ANN, (B, thing), "name", 1)
            self.refused(C, ANN, (C, thing, A), "name", 1)
            self.refused(C, ANN, (C, B, thing), "name", 2)
            self.refused(C, ANN, (C, B, thing, thing), "name", 2)
            self.refused(C, ANN, (C, B, A, thing), "name", 3)

    def test_what_does_not_follow(self):
        for hand, thing, at in (
            (ANN, (C, A), 1), (ANN, (C, C), 1), (ANN, (C, D), 1), (ANN, (C, Y), 1), (ANN, (C, B, X), 2),
            (ANN, (C, B, A, B), 3), (ANN, (C, B, A, A), 3), (ANN, (C, B, B), 2),
            # The note has not this hand among its voices.
            (ANN, (C, X), 1), (EVE, (C, B), 1), (EVE, (C, B, A), 1),
            # Nothing follows a name that none has.
            (EVE, (C, X, X), 2), (EVE, (C, X, A), 2), (EVE, (C, X, ("oak", 0, 1)), 2),
        ):
            self.refused(C, hand, thing, "name", at)
        self.refused(D, DAN, (D, C), "name", 1)
        # Whatever hand it is, a lower one follows.
        self.refused(B, EVE, (B, A), "last", -1)


class TestLast(SourceCase):
    def test_no_voice_of_its_own(self):
        self.refused(A, BOB, (A,), "last", -1)
        self.refused(B, ANN, (B,), "last", -1)
        self.refused(C, ANN, (C, B), "last", -1)

    def test_in_a_note_that_it_read(self):
        self.refused(C, ANN, (C,), "last", -1)
        self.refused(C, EVE, (C,), "last", -1)
        self.refused(D, BOB, (D,), "last", -1)
        self.refused(D, BOB, (D, C), "last", -1)

    def test_a_hand_of_nowhere(self):
        self.refused(A, ("fir", "abe"), (A,), "last", -1)
        self.refused(B, ("fir", "abe"), (B, A), "last", -1)


class TestNoName(SourceCase):
    def test_ahead_of_all_else(self):
        for name in (X, Y, ("elm", 9, 9)):
            for thing in ANY_THINGS + [(name,), (A,), (C, B, A)]:
                self.assertEqual(refusal(lets_source, MATTERS, name, ANN, thing), ("NoName", name))
                self.assertEqual(refusal(lets_source, (), name, ANN, thing), ("NoName", name))


if __name__ == "__main__":
    unittest.main()
