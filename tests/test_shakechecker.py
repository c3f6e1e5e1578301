import random
import unittest

from noted import A, B, C, D, E, X, Y, matter, note
from samples import ANN, ANY_THINGS, BOB, refusal, with_part
from strangerbench.resting import shaken
from strangerbench.shakechecker import lets_shaken

# A is firm, and E by itself; B read a note of A that turned, C one of B, D one of C, and one of X.
MATTERS = (
    matter(A, [note(E)], "yes"),
    matter(B, [note(A, "no"), note(E)]),
    matter(C, [note(A), note(B)]),
    matter(D, [note(C), note(C, "no"), note(X)]),
    matter(E, end="yes"),
)
TURNED = note(A, "no")
SHAKEN = ("shaken", (D, C, B), TURNED)
FIRM = ("firm", (A, E))
# Any of these is no name; True is no 1, and a list is no tuple.
NO_NAMES = (None, 0, "elm", ("elm", 0), ("elm", 0, 0, 0), ["elm", 0, 2], ("elm", False, 2), ("elm", 0, True), ((),), [],
            ["x"], [["x"]], True)


class ShakeCase(unittest.TestCase):
    def let_by(self, name, thing, matters=MATTERS, news=()):
        self.assertEqual(lets_shaken(matters, name, thing, news=news), thing[0])
        self.assertEqual(lets_shaken(matters=matters, name=name, thing=thing, news=news), thing[0])
        if news == ():
            self.assertEqual(lets_shaken(matters, name, thing), thing[0])
        self.assertEqual(thing[0] == "shaken", name in shaken(matters, news=news))

    def refused(self, name, thing, word, at, matters=MATTERS, news=()):
        before = repr((matters, thing, news))
        told = refusal(lets_shaken, matters, name, thing, news=news)
        self.assertEqual(told, ("NoPaper", word, at), thing)
        self.assertIs(type(told[2]), type(at))
        self.assertEqual(refusal(lets_shaken, matters=matters, name=name, thing=thing, news=news), told)
        self.assertEqual(repr((matters, thing, news)), before)


class TestShape(ShakeCase):
    def test_any_things(self):
        for thing in ANY_THINGS:
            self.refused(D, thing, "shape", -1)
            # The note is looked at by its kind alone, so no thing is one.
            self.refused(D, ("shaken", (D,), thing), "shape", -1)
            if type(thing) is not tuple:
                self.refused(D, ("firm", thing), "shape", -1)
                self.refused(D, ("shaken", thing, TURNED), "shape", -1)

    def test_shaken(self):
        for thing in (list(SHAKEN), SHAKEN[:2], SHAKEN + (None,), SHAKEN + (TURNED,), with_part(SHAKEN, 0, "Shaken"),
                      with_part(SHAKEN, 0, ""), with_part(SHAKEN, 0, ("shaken",)), with_part(SHAKEN, 1, [D, C, B]),
                      with_part(SHAKEN, 1, "row"), with_part(SHAKEN, 2, list(TURNED)), with_part(SHAKEN, 2, A),
                      with_part(SHAKEN, 2, (A, (), "laid")), with_part(SHAKEN, 2, (("elm", False, 0), (), "no")),
                      with_part(SHAKEN, 2, (A, (BOB, ANN), "no")), with_part(SHAKEN, 2, (A, [], "no")),
                      ("shaken", TURNED, (D, C, B)), ("firm",) + SHAKEN[1:]):
            self.refused(D, thing, "shape", -1)

    def test_firm(self):
        for thing in (list(FIRM), FIRM[:1], FIRM + (None,), FIRM + FIRM[1:], ("Firm", FIRM[1]), ("firm", [A, E]),
                      ("firm", None), (("firm",), FIRM[1]), ("shaken", FIRM[1]), (None, FIRM[1])):
            self.refused(A, thing, "shape", -1)

    def test_ahead_of_all_else(self):
        self.refused(D, ("shaken", (A, None), (A, (), "x")), "shape", -1)
        self.refused(D, ("firm", [None]), "shape", -1)


class TestShaken(ShakeCase):
    def test_let_by(self):
        self.let_by(D, SHAKEN)
        self.let_by(C, ("shaken", (C, B), TURNED))
        self.let_by(B, ("shaken", (B,), TURNED))
        self.let_by(D, ("shaken", (D,), note(X)), news=(note(X), note(X, "no")))

    def test_a_row_that_goes_round(self):
        matters = (matter(A, [note(B)]), matter(B, [note(A), note(A, "no"), note(X)]))
        news = (note(X, "no"),)
        for row in ((A, B), (A, B, A, B), (A, B, A, B, A, B)):
            self.let_by(A, ("shaken", row, note(X)), matters, news)
        self.refused(A, ("shaken", (A, A, B), note(X)), "name", 1, matters, news)
        self.refused(A, ("shaken", (A, B, B), note(X)), "name", 2, matters, news)
        self.refused(A, ("shaken", (A, B, A), note(X)), "note", -1, matters, news)

    def test_first(self):
        for row in ((), (C, B), (B,), (C, D, C, B), (X, C, B), (A,)):
            self.refused(D, ("shaken", row, TURNED), "first", -1)
        for thing in NO_NAMES:
            self.refused(C, ("shaken", (thing, B), TURNED), "first", -1)
            # All that is wrong behind it goes behind it.
            self.refused(C, ("shaken", (thing, thing), note(Y)), "first", -1)
        self.refused(D, ("shaken", (C, D, X), note(Y)), "first", -1)

    def test_name(self):
        for thing in NO_NAMES:
            self.refused(D, ("shaken", (D, thing, B), TURNED), "name", 1)
            self.refused(D, ("shaken", (D, C, thing), TURNED), "name", 2)
            self.refused(D, ("shaken", (D, thing, thing), note(Y)), "name", 1)
        # X was read by D, but is none of the matters; Y, D and E weren't read.
        for one in (X, Y, D, E, A, B):
            self.refused(D, ("shaken", (D, one), TURNED), "name", 1)
        self.refused(D, ("shaken", (D, C, D), TURNED), "name", 2)
        self.refused(D, ("shaken", (D, C, E, B), note(Y)), "name", 2)

    def test_note(self):
        for one in (note(A), note(A, "no", (ANN,)), note(C, "no"), note(Y), note(X)):
            self.refused(D, ("shaken", (D, C, B), one), "note", -1)
        # It was read, but not by the last.
        self.refused(D, ("shaken", (D, C), TURNED), "note", -1)
        self.refused(D, ("shaken", (D, C, B, A), TURNED), "note", -1)

    def test_turned(self):
        self.refused(D, ("shaken", (D, C), note(A)), "turned", -1)
        self.refused(D, ("shaken", (D, C, B), note(E)), "turned", -1)
        # Nothing is known of B, C, X, or just the same is.
        self.refused(D, ("shaken", (D, C), note(B)), "turned", -1)
        for news in ((), (note(X),), (note(X, "no"), note(X)), (note(C), note(C, "no"))):
            self.refused(D, ("shaken", (D,), note(X)), "turned", -1, news=news)
            self.refused(D, ("shaken", (D,), note(C, "no")), "turned", -1, news=news)

    def test_what_stands_goes_ahead_of_news(self):
        matters = (matter(A, end="yes"), matter(B, [note(A)]), matter(C, end="no", lower=A))
        self.let_by(B, ("shaken", (B,), note(A)), matters, (note(A),))
        matters = (matter(A, end="yes"), matter(B, [note(A)]), matter(C, lower=A))
        self.refused(B, ("shaken", (B,), note(A)), "turned", -1, matters, (note(A, "no"),))


class TestFirm(ShakeCase):
    def test_let_by(self):
        self.let_by(A, FIRM)
        self.let_by(E, FIRM)
        self.let_by(E, ("firm", (E,)))
        # More than it hangs on may be there, too.
        matters = (matter(A), matter(B, [note(X)]), matter(C, [note(B)]))
        for names in ((A,), (A, B), (A, B, C)):
            self.let_by(A, ("firm", names), matters)
            self.let_by(A, ("firm", names), matters, (note(X),))

    def test_name(self):
        for thing in NO_NAMES + (X, Y):
            self.refused(A, ("firm", (thing,)), "name", 0)
            self.refused(A, ("firm", (thing, thing)), "name", 0)
            self.refused(A, ("firm", (A, thing, E)), "name", 1)
            self.refused(A, ("firm", (A, E, thing)), "name", 2)
        for names in ((E, A), (A, A), (A, C, B), (A, E, A)):
            self.refused(A, ("firm", names), "name", len(names) - 1)
        # It goes ahead of first, turned, rests.
        self.refused(D, ("firm", (B, A)), "name", 1)

    def test_first(self):
        self.refused(A, ("firm", ()), "first", -1)
        self.refused(A, ("firm", (E,)), "first", -1)
        # It goes ahead of turned and rests.
        self.refused(A, ("firm", (B, C, D)), "first", -1)

    def test_turned(self):
        self.refused(B, ("firm", (A, B, E)), "turned", (1, 0))
        self.refused(C, ("firm", (A, B, C, E)), "turned", (1, 0))
        self.refused(D, ("firm", (C, D)), "rests", (0, 0))
        news = (note(X, "no"),)
        matters = (matter(A, [note(E), note(X)]), matter(B, [note(A), note(X, "no")]), matter(E))
        self.refused(A, ("firm", (A, E)), "turned", (0, 1), matters, news)
        self.refused(B, ("firm", (A, B, E)), "turned", (1, 1), matters, (note(X),))

    def test_rests(self):
        self.refused(A, ("firm", (A,)), "rests", (0, 0))
        matters = (matter(A), matter(B, [note(X), note(A), note(C)]), matter(C))
        # A's note is the first of B's, C's the second, X's the last.
        self.refused(B, ("firm", (B,)), "rests", (0, 0), matters)
        self.refused(B, ("firm", (B, C)), "rests", (0, 0), matters)
        self.refused(B, ("firm", (A, B)), "rests", (1, 1), matters)
        self.let_by(B, ("firm", (A, B, C)), matters)

    def test_name_by_name_and_note_by_note(self):
        matters = (matter(A, [note(C), note(X), note(Y)]), matter(B, [note(D), note(X, "no")]), matter(C), matter(D))
        yes, no = (note(X), note(Y)), (note(X, "no"), note(Y, "no"))
        self.refused(A, ("firm", (A, B, C, D)), "turned", (1, 1), matters, yes)
        self.refused(A, ("firm", (A, B, C, D)), "turned", (0, 1), matters, no)
        self.refused(A, ("firm", (A, B, D)), "rests", (0, 0), matters, no)
        self.refused(A, ("firm", (A, B, C)), "turned", (0, 1), matters, no)
        self.refused(A, ("firm", (A, B, C)), "rests", (1, 0), matters, yes)
        self.refused(A, ("firm", (A, B)), "rests", (0, 0), matters, yes)

    def test_turned_goes_ahead_of_rests_of_one_note(self):
        # A's verdict was no, as it stands, and it isn't among the names.
        matters = (matter(A, end="no"), matter(B, [note(A)]), matter(C, [note(B)]))
        self.refused(B, ("firm", (B,)), "turned", (0, 0), matters)
        self.refused(C, ("firm", (C,)), "rests", (0, 0), matters)

    def test_more_than_ten_notes(self):
        names = [("oak", 0, number) for number in range(12)]
        matters = (matter(A, [note(name) for name in names]),)
        for at, name in enumerate(names):
            self.refused(A, ("firm", (A,)), "turned", (0, at), matters, (note(name, "no"),))
            self.let_by(A, ("shaken", (A,), note(name)), matters, (note(name, "no"),))


class TestName(ShakeCase):
    def test_ahead_of_all_else(self):
        for name in (X, ("elm", 9, 9)):
            for thing in ANY_THINGS + [SHAKEN, FIRM, ("firm", (name,)), ("shaken", (name,), TURNED)]:
                self.assertEqual(refusal(lets_shaken, MATTERS, name, thing), ("NoName", name))
                self.assertEqual(refusal(lets_shaken, (), name, thing, news=(note(name),)), ("NoName", name))

    def test_news_goes_by_name_alone(self):
        with self.assertRaises(TypeError):
            lets_shaken(MATTERS, A, FIRM, ())


class TestAnyMatters(ShakeCase):
    def test_no_paper_of_both_words(self):
        # Whatever rows and names are tried: what is let by is so.
        chance = random.Random(47)
        names = [("elm", 0, number) for number in range(4)]
        let_by = []
        for _ in range(120):
            matters = tuple([matter(name, {note(chance.choice(names + [X]), chance.choice(("yes", "no")))
                                           for _ in range(chance.randrange(3))}, chance.choice(("yes", "no", None)))
                             for name in names])
            news = tuple([note(X, chance.choice(("yes", "no"))) for _ in range(chance.randrange(2))])
            shook = shaken(matters, news=news)
            for _ in range(60):
                name = chance.choice(names)
                row = tuple([name] + [chance.choice(names) for _ in range(chance.randrange(3))])
                told = chance.choice(matters)[4]
                thing = ("firm", tuple(sorted(set(row))))
                if told and chance.random() < 0.6:
                    thing = ("shaken", row, chance.choice(told))
                try:
                    word = lets_shaken(matters, name, thing, news=news)
                except ValueError:
                    continue
                let_by.append(word)
                self.assertEqual(word == "shaken", name in shook)
        self.assertGreater(let_by.count("shaken"), 100)
        self.assertGreater(let_by.count("firm"), 100)


if __name__ == "__main__":
    unittest.main()
