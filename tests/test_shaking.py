import random
import unittest

from noted import A, B, C, D, E, X, Y, matter, note
from samples import all_tuples, refusal
from strangerbench.resting import shaken
from strangerbench.shakechecker import lets_shaken
from strangerbench.shaking import shake_paper

NOBODY = ("elm", 9, 9)


class TestShakePaper(unittest.TestCase):
    def tell(self, matters, name, news=()):
        """What is told: it is let by, and its word is right."""
        before = repr((matters, name, news))
        told = shake_paper(matters, name, news=news)
        self.assertEqual(lets_shaken(matters, name, told, news=news), told[0])
        self.assertEqual(told[0], "shaken" if name in shaken(matters, news=news) else "firm")
        again = shake_paper(matters=matters, name=name, news=news)
        self.assertEqual(lets_shaken(matters, name, again, news=news), told[0])
        if news == ():
            self.assertEqual(lets_shaken(matters, name, shake_paper(matters, name)), told[0])
        self.assertIs(all_tuples(told), True)
        self.assertEqual(repr((matters, name, news)), before)
        return told

    def test_firm_by_itself(self):
        self.assertEqual(self.tell((matter(A),), A), ("firm", (A,)))
        # Others are of no weight.
        self.assertEqual(self.tell((matter(A), matter(B, [note(A, "no")]), matter(C)), C), ("firm", (C,)))

    def test_firm_with_what_it_read(self):
        matters = (matter(A, end="yes"), matter(B, [note(A), note(X)]), matter(C, [note(B), note(D)]), matter(D))
        self.assertEqual(self.tell(matters, C), ("firm", (A, B, C, D)))
        self.assertEqual(self.tell(matters, B), ("firm", (A, B)))
        self.assertEqual(self.tell(matters, A, (note(X, "no"),)), ("firm", (A,)))

    def test_shaken_itself(self):
        matters = (matter(A, end="yes"), matter(B, [note(A, "no")]))
        self.assertEqual(self.tell(matters, B), ("shaken", (B,), note(A, "no")))
        matters = (matter(A), matter(B, [note(A), note(X), note(Y)]))
        self.assertEqual(self.tell(matters, B, (note(X), note(Y, "no"))), ("shaken", (B,), note(Y)))

    def test_shaken_through_others(self):
        matters = (matter(A, [note(X)]), matter(B, [note(A)]), matter(C, [note(B)]), matter(D, [note(C), note(E)]),
                   matter(E, [note(Y)]))
        told = self.tell(matters, D, (note(X, "no"),))
        self.assertEqual(told, ("shaken", (D, C, B, A), note(X)))
        self.assertEqual(self.tell(matters, D, (note(Y, "no"),)), ("shaken", (D, E), note(Y)))
        self.assertEqual(self.tell(matters, E, (note(X, "no"),)), ("firm", (E,)))
        self.assertIn(self.tell(matters, D, (note(X, "no"), note(Y, "no")))[1], ((D, E), (D, C, B, A)))

    def test_rounds(self):
        matters = (matter(A, [note(B)]), matter(B, [note(A), note(B)]), matter(C, [note(B), note(X)]))
        for name in (A, B):
            self.assertEqual(self.tell(matters, name, (note(X, "no"),)), ("firm", (A, B)))
        self.assertEqual(self.tell(matters, C), ("firm", (A, B, C)))
        matters = (matter(A, [note(B)]), matter(B, [note(C)]), matter(C, [note(A), note(X)]))
        self.assertEqual(self.tell(matters, A, (note(X, "no"),)), ("shaken", (A, B, C), note(X)))

    def test_a_name_that_none_has(self):
        for matters in ((), (matter(A, [note(X)]),)):
            for name in (NOBODY, X):
                self.assertEqual(refusal(shake_paper, matters, name), ("NoName", name))
                self.assertEqual(refusal(shake_paper, matters, name, news=(note(name),)), ("NoName", name))

    def test_news_goes_by_name_alone(self):
        with self.assertRaises(TypeError):
            shake_paper((matter(A),), A, ())

    def test_any_matters(self):
        chance = random.Random(46)
        names = [("elm", 0, number) for number in range(8)]
        words = []
        for _ in range(150):
            matters = tuple([matter(name, {note(chance.choice(names + [X, Y]), chance.choice(("yes", "yes", "no")))
                                           for _ in range(chance.randrange(4))}, chance.choice(("yes", None, None)))
                             for name in names])
            news = tuple([note(chance.choice((X, Y)), chance.choice(("yes", "no")))
                          for _ in range(chance.randrange(3))])
            words.extend([self.tell(matters, name, news)[0] for name in names])
        self.assertGreater(words.count("shaken"), 200)
        self.assertGreater(words.count("firm"), 200)


if __name__ == "__main__":
    unittest.main()
