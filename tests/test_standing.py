import random
import unittest

from samples import all_tuples, refusal
from strangerbench.standing import appeals_of, overturned, standing


def matter(name, lower, end):
    """A matter of which just the name, the lower one and the end matter here."""
    return (name, lower, (), (), (), (), end)


A, B, C, D = [("elm", 0, number) for number in range(4)]
E, F = ("elm", 2, 0), ("oak", 0, 0)
NOBODY = ("elm", 0, 9)


def standing_by_the_words(matters, name):
    """The standing verdict as point 5 tells it."""
    for appeal in sorted([one[0] for one in matters if one[1] == name], reverse=True):
        told = standing_by_the_words(matters, appeal)
        if told is not None:
            return told
    own, = [one[6] for one in matters if one[0] == name]
    return own if own in ("yes", "no") else None


class TestStanding(unittest.TestCase):
    def check(self, matters, wanted, turned):
        """Of the names as they rise the standing verdicts."""
        self.assertEqual([standing(matters, one[0]) for one in matters], wanted)
        self.assertEqual(overturned(matters), turned)
        self.assertIs(all_tuples(overturned(matters)), True)

    def test_without_appeals(self):
        for end, wanted in (("yes", "yes"), ("no", "no"), ("laid", None), ("broken", None), (None, None)):
            self.check((matter(A, None, end),), [wanted], ())
        self.check((), [], ())

    def test_an_appeal(self):
        self.check((matter(A, None, "yes"), matter(B, A, "no")), ["no", "no"], (A,))
        self.check((matter(A, None, "yes"), matter(B, A, "yes")), ["yes", "yes"], ())
        for end in (None, "laid", "broken"):
            self.check((matter(A, None, "yes"), matter(B, A, end)), ["yes", None], ())

    def test_the_greatest_name_that_has_one(self):
        self.check((matter(A, None, "yes"), matter(B, A, "no"), matter(C, A, "yes")), ["yes", "no", "yes"], ())
        self.check((matter(A, None, "yes"), matter(B, A, "yes"), matter(C, A, "no")), ["no", "yes", "no"], (A,))
        self.check((matter(A, None, "yes"), matter(B, A, "no"), matter(C, A, "laid"), matter(E, A, "broken")),
                   ["no", "no", None, None], (A,))

    def test_appeals_of_appeals(self):
        chain = (matter(A, None, "yes"), matter(B, A, "no"), matter(C, B, "yes"), matter(D, C, "no"))
        self.check(chain, ["no"] * 4, (A, C))
        self.check(chain[:3], ["yes"] * 3, (B,))
        self.check(chain[:3] + (matter(D, C, None),), ["yes", "yes", "yes", None], (B,))
        # The appeal with the greatest name goes ahead, though another one is deeper.
        self.check((matter(A, None, "yes"), matter(B, A, "no"), matter(C, A, "yes"), matter(D, B, "yes")),
                   ["yes", "yes", "yes", "yes"], (B,))
        self.check((matter(A, None, "no"), matter(B, A, "no"), matter(C, A, "no"), matter(D, B, "yes")),
                   ["no", "yes", "no", "yes"], (B,))

    def test_more_than_ten_appeals(self):
        names = [("elm", 0, number) for number in range(1, 13)]
        for last in range(12):
            appeals = [matter(name, A, "no" if at == last else "yes" if at < last else None)
                       for at, name in enumerate(names)]
            matters = (matter(A, None, "yes"),) + tuple(appeals)
            self.assertEqual(standing(matters, A), "no")
            self.assertEqual(overturned(matters), (A,))
            self.assertEqual(appeals_of(matters, A), tuple(names))

    def test_rises_are_compared_as_numbers(self):
        two, ten = ("elm", 2, 0), ("elm", 10, 0)
        self.check((matter(A, None, "yes"), matter(two, A, "yes"), matter(ten, A, "no")), ["no", "yes", "no"], (A,))

    def test_books_put_together(self):
        matters = (matter(A, None, "yes"), matter(B, A, "no"), matter(F, None, "no"), matter(("oak", 0, 1), F, "yes"))
        self.check(matters, ["no", "no", "yes", "yes"], (A, F))

    def test_any_trees(self):
        chance = random.Random(44)
        for _ in range(200):
            matters = []
            for number in range(12):
                with_verdict = [one[0] for one in matters if one[6] in ("yes", "no")]
                lower = chance.choice(with_verdict + [None])
                matters.append(matter(("elm", 0, number), lower, chance.choice(("yes", "no", "laid", None))))
            matters = tuple(matters)
            stands = {one[0]: standing_by_the_words(matters, one[0]) for one in matters}
            turned = [one[0] for one in matters if one[6] in ("yes", "no") and one[6] != stands[one[0]]]
            self.check(matters, list(stands.values()), tuple(turned))


class TestAppeals(unittest.TestCase):
    matters = (matter(A, None, "yes"), matter(B, A, "no"), matter(C, B, "laid"), matter(D, A, None), matter(E, A, "yes"))

    def test_straight_appeals_alone(self):
        self.assertEqual(appeals_of(self.matters, A), (B, D, E))
        self.assertEqual(appeals_of(matters=self.matters, name=B), (C,))
        self.assertEqual(appeals_of(self.matters, C), ())
        self.assertIs(all_tuples(appeals_of(self.matters, A)), True)
        self.assertEqual(standing(matters=self.matters, name=A), "yes")
        self.assertEqual(overturned(matters=self.matters), ())

    def test_a_name_that_none_has(self):
        for look in (appeals_of, standing):
            for matters in (self.matters, ()):
                self.assertEqual(refusal(look, matters, NOBODY), ("NoName", NOBODY))


if __name__ == "__main__":
    unittest.main()
