import random
import unittest

from noted import A, B, C, D, E, X, Y, matter, note
from samples import ANN, BOB, all_tuples
from strangerbench.resting import rests_on, shaken


class RestCase(unittest.TestCase):
    def rests(self, matters, name, wanted):
        before = repr(matters)
        told = rests_on(matters, name)
        self.assertEqual(told, wanted)
        self.assertEqual(rests_on(matters=matters, name=name), told)
        self.assertIs(all_tuples(told), True)
        self.assertEqual(repr(matters), before)

    def shook(self, matters, wanted, news=()):
        before = repr((matters, news))
        told = shaken(matters, news=news)
        self.assertEqual(told, wanted)
        self.assertEqual(shaken(matters=matters, news=news), told)
        if news == ():
            self.assertEqual(shaken(matters), told)
        self.assertIs(all_tuples(told), True)
        self.assertEqual(repr((matters, news)), before)


class TestRestsOn(RestCase):
    def test_none(self):
        self.rests((), A, ())
        self.rests((matter(A), matter(B)), A, ())
        self.rests((matter(A), matter(B, [note(X)])), A, ())

    def test_straight(self):
        matters = (matter(A), matter(B, [note(A)]), matter(C, [note(A), note(X)]), matter(D, [note(X)]))
        self.rests(matters, A, (B, C))
        self.rests(matters, X, (C, D))
        self.rests(matters, B, ())
        # Of any name, nothing is refused.
        self.rests(matters, Y, ())

    def test_through_others(self):
        matters = (matter(A, [note(E)]), matter(B, [note(A)]), matter(C, [note(B)]), matter(D), matter(E, [note(X)]))
        self.rests(matters, X, (A, B, C, E))
        self.rests(matters, E, (A, B, C))
        self.rests(matters, A, (B, C))
        self.rests(matters, C, ())
        self.rests(matters, D, ())

    def test_not_through_a_name_that_none_has(self):
        # Whoever wrote the note of X is no matter here, whatever X read.
        self.rests((matter(A), matter(B, [note(X)])), A, ())

    def test_not_through_lower_ones(self):
        matters = (matter(A, end="yes"), matter(B, lower=A), matter(C, [note(B)]))
        self.rests(matters, A, ())
        self.rests(matters, B, (C,))

    def test_rounds(self):
        self.rests((matter(A, [note(A)]),), A, (A,))
        matters = (matter(A, [note(C)]), matter(B, [note(A)]), matter(C, [note(B), note(X)]), matter(D, [note(C)]))
        for name in (A, B, C, X):
            self.rests(matters, name, (A, B, C, D))
        self.rests(matters, D, ())

    def test_several_notes_of_one_name(self):
        matters = (matter(A, [note(X), note(X, "no"), note(Y)]), matter(B, [note(A), note(A, "no")]))
        self.rests(matters, X, (A, B))


class TestShaken(RestCase):
    def test_none(self):
        self.shook((), ())
        self.shook((), (), (note(A), note(A, "no")))
        self.shook((matter(A, end="yes"), matter(B, [note(A)])), ())

    def test_of_a_matter_that_is_there(self):
        for verdict, wanted in (("yes", ()), ("no", (B,))):
            self.shook((matter(A, end="yes"), matter(B, [note(A, verdict)])), wanted)
        # It counts what stands, not what it told first, and no news.
        matters = (matter(A, end="yes"), matter(B, [note(A)]), matter(C, end="no", lower=A))
        self.shook(matters, (B,))
        self.shook(matters, (B,), (note(A),))
        self.shook((matter(A, end="yes"), matter(B, [note(A)])), (), (note(A, "no"),))

    def test_of_a_matter_without_a_verdict(self):
        # Nothing is known of it then, whatever news there are.
        for end in (None, "laid", "broken"):
            matters = (matter(A, end=end), matter(B, [note(A, "no")]), matter(C, [note(A)]))
            self.shook(matters, (), (note(A), note(A, "no")))

    def test_by_news(self):
        matters = (matter(A, [note(X)]), matter(B, [note(Y, "no")]))
        self.shook(matters, ())
        self.shook(matters, (), (note(X), note(Y, "no")))
        self.shook(matters, (A,), (note(X, "no"),))
        self.shook(matters, (A, B), (note(X, "no"), note(Y)))

    def test_the_last_news_of_a_name(self):
        matters = (matter(A, [note(X)]), matter(B, [note(X, "no")]))
        self.shook(matters, (A,), (note(X), note(X, "no")))
        self.shook(matters, (B,), (note(X, "no"), note(X)))
        self.shook(matters, (B,), (note(X, "no", (ANN, BOB)), note(X), note(Y, "no"), note(Y)))

    def test_all_that_rest_on_these(self):
        matters = (matter(A, [note(E)]), matter(B, [note(A)]), matter(C, [note(B)]), matter(D, [note(Y)]),
                   matter(E, [note(X), note(Y)]))
        self.shook(matters, (A, B, C, E), (note(X, "no"),))
        self.shook(matters, (A, B, C, D, E), (note(Y, "no"),))
        self.shook(matters, (), (note(X), note(Y)))

    def test_one_turned_note_of_several(self):
        matters = (matter(A, [note(X), note(X, "no"), note(Y)]),)
        self.shook(matters, (A,), (note(X),))
        self.shook(matters, (A,), (note(X, "no"),))
        self.shook(matters, (), (note(Y),))

    def test_rounds(self):
        matters = (matter(A, [note(B)]), matter(B, [note(A)]), matter(C, [note(B), note(X)]))
        self.shook(matters, ())
        self.shook(matters, (C,), (note(X, "no"),))
        matters = (matter(A, [note(B), note(X)]), matter(B, [note(A)]), matter(C, [note(B)]))
        self.shook(matters, (A, B, C), (note(X, "no"),))
        self.shook((matter(A, [note(A, "no")], "yes"),), (A,))

    def test_what_it_came_to_itself(self):
        # B tells another verdict than A read of it, and A another one than C read.
        matters = (matter(A, [note(B)], "yes"), matter(B, end="no"), matter(C, [note(A)], "yes"), matter(D, [note(C)]))
        self.shook(matters, (A, C, D))

    def test_news_goes_by_name_alone(self):
        with self.assertRaises(TypeError):
            shaken((), ())


class TestAnyMatters(RestCase):
    def test_against_the_words(self):
        chance = random.Random(45)
        names = [("elm", 0, number) for number in range(7)]
        for _ in range(200):
            matters = tuple([matter(name, {note(chance.choice(names + [X, Y]), chance.choice(("yes", "no")))
                                           for _ in range(chance.randrange(3))}, chance.choice(("yes", "no", None)))
                             for name in names])
            news = tuple([note(chance.choice(names + [X, Y]), chance.choice(("yes", "no")))
                          for _ in range(chance.randrange(4))])
            ends = {one[0]: one[6] for one in matters}
            known = {one[0]: one[2] for one in news}
            known.update(ends)
            read = {one[0]: {told[0] for told in one[4]} for one in matters}
            shook = {one[0] for one in matters
                     if [told for told in one[4] if known.get(told[0]) and known[told[0]] != told[2]]}
            for name in names + [X, Y]:
                on = set()
                for _ in names:
                    on = {one for one in names if read[one] & (on | {name})}
                self.rests(matters, name, tuple(sorted(on)))
            for _ in names:
                shook |= {one for one in names if read[one] & shook}
            self.shook(matters, tuple(sorted(shook)), news)
            # News of what nothing was known of make no fewer.
            more = tuple([note(name) for name in (X, Y) if name not in known])
            self.assertLessEqual(shook, set(shaken(matters, news=news + more)))


if __name__ == "__main__":
    unittest.main()
