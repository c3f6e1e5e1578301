import random
import unittest

from samples import ANN, ANY_THINGS, BOB, CAT, DAN, EVE, HANDS, refusal, with_part
from strangerbench.handpairs import pairs_of
from strangerbench.roundchecker import lets_round
from strangerbench.roundings import round_paper, rounded, rounded_by

TOWNS = ("ash", "elm", "oak")
HEARD = (("ash", 1, 4), ("elm", 0, 0), ("oak", 2, 20))
TELLS = (
    ("ash", (0, 0, (((EVE, ANN), (0, 1), "ash", "elm", 0, 8, True),))),
    ("elm", (0, 0, (((EVE, ANN), (0, 1), "ash", "elm", 0, 1, False), ((ANN, DAN), (0, 2), "elm", "elm", 0, 9, True)))),
    ("oak", (0, 0, (((ANN, BOB), (0, 1), "elm", "oak", 0, 3, False), ((BOB, CAT), (0, 1), "oak", "elm", 0, 3, False)))),
)
# The paper of elm, and that of oak, where all ways are to be found.
PAPER = (((EVE, ANN), "away", "ash"), ((ANN, DAN), "stays", "elm"), ((ANN, BOB), "away", "oak"),
         ((BOB, CAT), "away", "oak"))
OTHER = (((EVE, ANN), "away", "ash"), ((ANN, DAN), "away", "elm"), ((ANN, BOB), "again", "oak"),
         ((BOB, CAT), "again", "oak"))


class RoundCase(unittest.TestCase):
    def let_by(self, town, tells, paper, heard=HEARD):
        self.assertIs(lets_round(town, tells, paper, heard=heard), True)
        self.assertIs(lets_round(town=town, tells=tells, thing=paper, heard=heard), True)

    def refused(self, thing, word, at, town="elm", tells=TELLS, heard=HEARD):
        before = repr((tells, thing, heard))
        told = refusal(lets_round, town, tells, thing, heard=heard)
        self.assertEqual(told, ("NoPaper", word, at), thing)
        self.assertIs(type(told[2]), int)
        self.assertEqual(refusal(lets_round, town=town, tells=tells, thing=thing, heard=heard), told)
        self.assertEqual(repr((tells, thing, heard)), before)


class TestLetBy(RoundCase):
    def test_those_that_are_told(self):
        for town, paper in (("elm", PAPER), ("oak", OTHER)):
            self.assertEqual(round_paper(town, TELLS, heard=HEARD), paper)
            self.let_by(town, TELLS, paper)
            told = rounded_by(town, TELLS, paper, heard=HEARD, span=7)
            self.assertEqual(told, rounded(town, TELLS, heard=HEARD, span=7))

    def test_the_void_one(self):
        void = tuple([(town, (0, 0, ())) for town in TOWNS])
        self.let_by("ash", void, ())
        self.refused((((ANN, BOB), "away", "oak"),), "pairs", -1, tells=void)

    def test_what_is_heard_is_looked_at(self):
        # Ann and Bob's right was sent to elm by ash: it comes no more where ash rose behind that.
        tells = (("ash", (0, 0, (((ANN, BOB), (0, 4), "elm", "ash", 0, 5, False),))),) + tuple(
            [(town, (0, 0, ())) for town in ("elm", "oak")])
        none = tuple([(town, 0, 0) for town in TOWNS])
        for heard, way, wrong in ((HEARD, "again", "away"), (none, "away", "again")):
            self.let_by("oak", tells, (((ANN, BOB), way, "ash"),), heard)
            self.refused((((ANN, BOB), wrong, "ash"),), "way", 0, "oak", tells, heard)


class TestShape(RoundCase):
    def test_any_things(self):
        for thing in ANY_THINGS:
            if thing != ():
                self.refused(thing, "shape", -1)
        self.refused((), "pairs", -1)

    def test_triples(self):
        for at in range(4):
            for triple in (list(PAPER[at]), PAPER[at][:2], PAPER[at] + ("oak",), PAPER[at] + (None,), None, (), 0,
                           "away", with_part(PAPER[at], 0, list(PAPER[at][0])), with_part(PAPER[at], 0, PAPER[at][0][::-1]),
                           with_part(PAPER[at], 0, (ANN, ANN)), with_part(PAPER[at], 0, ANN),
                           with_part(PAPER[at], 0, None), with_part(PAPER[at], 0, (ANN, BOB, CAT)),
                           with_part(PAPER[at], 0, (ANN, ("oak", "Bob")))):
                self.refused(with_part(PAPER, at, triple), "shape", -1)
            for part in (1, 2):
                for thing in (None, 0, True, (), [], ("away",), ["oak"], ANN):
                    self.refused(with_part(PAPER, at, with_part(PAPER[at], part, thing)), "shape", -1)
        self.refused(list(PAPER), "shape", -1)
        self.refused((PAPER,), "shape", -1)

    def test_ahead_of_all_else(self):
        wrong = (PAPER[1], (PAPER[0][0], "stays", "fir"), (ANN, "away", "oak"))
        self.refused(wrong, "shape", -1)


class TestPairs(RoundCase):
    def test_out_twice_exchanged_or_others(self):
        for at in range(4):
            self.refused(PAPER[:at] + PAPER[at + 1:], "pairs", -1)
            self.refused(PAPER[:at + 1] + PAPER[at:], "pairs", -1)
            self.refused(with_part(PAPER, at, ((DAN, BOB), "away", "oak")), "pairs", -1)
        for at in range(3):
            self.refused(PAPER[:at] + (PAPER[at + 1], PAPER[at]) + PAPER[at + 2:], "pairs", -1)
        # It is in none of the rows told, though right where it stands.
        self.refused(PAPER[:3] + (((DAN, BOB), "away", "oak"),) + PAPER[3:], "pairs", -1)
        self.refused(PAPER + (((BOB, ("oak", "dan")), "away", "oak"),), "pairs", -1)

    def test_ahead_of_tellers_and_ways(self):
        self.refused((((EVE, ANN), "stays", "fir"),) + PAPER[2:], "pairs", -1)


class TestTriples(RoundCase):
    def test_another_teller(self):
        for at in range(4):
            for teller in ("ash", "elm", "oak", "fir", "", "Elm"):
                if teller != PAPER[at][2]:
                    self.refused(with_part(PAPER, at, with_part(PAPER[at], 2, teller)), "teller", at)
        # Elm has a row of that stamp, too, but ash is less.
        self.refused(with_part(PAPER, 0, ((EVE, ANN), "away", "elm")), "teller", 0)

    def test_another_way(self):
        for at in range(4):
            for way in ("stays", "again", "away", "", "Away", "here"):
                if way != PAPER[at][1]:
                    self.refused(with_part(PAPER, at, with_part(PAPER[at], 1, way)), "way", at)

    def test_the_teller_goes_ahead_of_the_way(self):
        for at in range(4):
            self.refused(with_part(PAPER, at, (PAPER[at][0], "", "fir")), "teller", at)

    def test_the_first_triple_goes(self):
        for first in range(3):
            for then in range(first + 1, 4):
                way, teller = with_part(PAPER[first], 1, "no"), with_part(PAPER[then], 2, "no")
                self.refused(with_part(with_part(PAPER, first, way), then, teller), "way", first)
                way, teller = with_part(PAPER[then], 1, "no"), with_part(PAPER[first], 2, "no")
                self.refused(with_part(with_part(PAPER, then, way), first, teller), "teller", first)


class TestTown(RoundCase):
    def test_ahead_of_all_else(self):
        for thing in ANY_THINGS + [PAPER, PAPER[1:], with_part(PAPER, 0, ((EVE, ANN), "away", "fir"))]:
            self.assertEqual(refusal(lets_round, "fir", TELLS, thing, heard=HEARD), ("NoTown", "fir"))

    def test_heard_goes_by_name_alone(self):
        with self.assertRaises(TypeError):
            lets_round("elm", TELLS, PAPER, HEARD)


class TestAnyRounds(RoundCase):
    def some_rights(self, chance):
        rows = [(pair, (chance.randrange(2), chance.randrange(3)), chance.choice(TOWNS), chance.choice(TOWNS),
                 chance.randrange(3), chance.randrange(40), chance.random() < 0.5)
                for pair in pairs_of(HANDS) if chance.random() < 0.4]
        return (chance.randrange(3), chance.randrange(30), tuple(rows))

    def test_just_one_is_let_by(self):
        chance = random.Random(20)
        for _ in range(60):
            tells = tuple([(town, self.some_rights(chance)) for town in TOWNS])
            heard = tuple([(town, chance.randrange(3), chance.randrange(30)) for town in TOWNS])
            town = chance.choice(TOWNS)
            paper = round_paper(town, tells, heard=heard)
            self.let_by(town, tells, paper, heard)
            for at, (pair, way, teller) in enumerate(paper):
                for other in ("stays", "again", "away"):
                    for one in TOWNS:
                        if one != teller:
                            self.refused(with_part(paper, at, (pair, other, one)), "teller", at, town, tells, heard)
                        elif other != way:
                            self.refused(with_part(paper, at, (pair, other, one)), "way", at, town, tells, heard)


if __name__ == "__main__":
    unittest.main()
