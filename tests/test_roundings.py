import random
import unittest

from samples import ANN, BOB, CAT, DAN, EVE, HANDS
from strangerbench.errors import NoTown
from strangerbench.handpairs import home_of, pairs_of
from strangerbench.holdings import is_mine, row_of
from strangerbench.rightkinds import is_rights
from strangerbench.roundings import round_paper, rounded, rounded_by

PAIR = (ANN, BOB)


def tells_of(ash=(), elm=(), oak=()):
    """What the three towns tell, each by its rows."""
    return (("ash", (0, 0, tuple(ash))), ("elm", (0, 0, tuple(elm))), ("oak", (0, 0, tuple(oak))))


def row(stamp, place, giver, rise, free, here, pair=PAIR):
    """A row, of one pair where no other is told."""
    return (pair, stamp, place, giver, rise, free, here)


# Of these rises the turn is 3 and, with a span of 7, the floor 27.
HEARD = (("ash", 1, 4), ("elm", 0, 0), ("oak", 2, 20))


class TestWays(unittest.TestCase):
    def check(self, town, tells, way, teller, wanted, heard=HEARD):
        paper = round_paper(town, tells, heard=heard)
        self.assertEqual(paper, ((PAIR, way, teller),))
        turn = sum([rise for _, rise, _ in heard])
        floor = max([day for _, _, day in heard]) + 7
        told = rounded(town, tells, heard=heard, span=7)
        self.assertEqual(told, (turn, floor, (wanted,)))
        self.assertEqual(rounded_by(town, tells, paper, heard=heard, span=7), told)

    def test_stays(self):
        mine = row((0, 1), "elm", "oak", 0, 5, True)
        gave = row((0, 1), "elm", "oak", 0, 9, False)
        wanted = row((3, 0), "elm", "elm", 0, 27, True)
        self.check("elm", tells_of(elm=[mine], oak=[gave]), "stays", "elm", wanted)
        self.check("elm", tells_of(elm=[mine]), "stays", "elm", wanted)
        # At its home, the own rise of which is 2.
        mine = row((1, 4), "oak", "elm", 0, 40, True)
        self.check("oak", tells_of(elm=[mine[:6] + (False,)], oak=[mine]), "stays", "elm",
                   row((3, 0), "oak", "oak", 2, 40, True))

    def test_stays_by_what_has_no_row(self):
        elder = row((0, 0), "oak", "oak", 0, 8, False)
        tells = (("elm", (0, 0, (elder,))), ("oak", (2, 30, ())))
        heard = (("elm", 0, 0), ("oak", 3, 21))
        self.check("oak", tells, "stays", "oak", row((2, 1), "oak", "oak", 2, 30, True),
                   heard=(("elm", 0, 0), ("oak", 2, 3)))
        self.check("oak", tells, "stays", "oak", row((3, 0), "oak", "oak", 3, 30, True), heard=heard)

    def test_a_stamp_of_this_very_turn(self):
        mine = row((3, 6), "elm", "oak", 0, 5, True)
        self.check("elm", tells_of(elm=[mine]), "stays", "elm", row((3, 7), "elm", "elm", 0, 27, True))
        given = row((3, 0), "oak", "elm", 0, 5, False)
        self.check("oak", tells_of(elm=[given]), "again", "elm", row((3, 1), "oak", "oak", 2, 27, True))

    def test_a_stamp_of_a_greater_turn(self):
        mine = row((4, 6), "elm", "oak", 0, 5, True)
        self.check("elm", tells_of(elm=[mine]), "stays", "elm", row((3, 0), "elm", "elm", 0, 27, True))
        away = row((4, 6), "ash", "oak", 0, 5, False)
        self.check("elm", tells_of(oak=[away]), "away", "oak", away)

    def test_again_since_the_place_is_this_town(self):
        given = row((0, 4), "oak", "elm", 0, 33, False)
        wanted = row((3, 0), "oak", "oak", 2, 33, True)
        self.check("oak", tells_of(elm=[given]), "again", "elm", wanted)
        self.check("oak", tells_of(elm=[given], oak=[row((0, 2), "ash", "oak", 0, 5, False)]), "again", "elm", wanted)
        self.check("oak", tells_of(oak=[given]), "again", "oak", wanted)

    def test_not_again_elsewhere_though_the_place_is_this_town(self):
        given = row((0, 4), "elm", "oak", 0, 33, False)
        self.check("elm", tells_of(oak=[given]), "away", "oak", given)
        self.check("elm", tells_of(elm=[given]), "away", "elm", given)

    def test_again_since_the_place_has_it_not_here(self):
        there = row((0, 4), "elm", "oak", 0, 5, False)
        self.check("oak", tells_of(elm=[there]), "again", "elm", row((3, 0), "oak", "oak", 2, 27, True))
        self.check("oak", tells_of(elm=[there], oak=[there]), "again", "elm", row((3, 0), "oak", "oak", 2, 27, True))
        # Of the same stamp just the place's own row is looked at.
        mixed = tells_of(ash=[there[:6] + (True,)], elm=[there])
        self.check("oak", mixed, "again", "ash", row((3, 0), "oak", "oak", 2, 27, True))

    def test_away_since_the_place_has_it_here(self):
        there = row((0, 4), "elm", "oak", 0, 5, True)
        self.check("oak", tells_of(elm=[there]), "away", "elm", row((0, 4), "elm", "oak", 0, 5, False))
        mixed = tells_of(ash=[there[:6] + (False,)], elm=[there])
        self.check("oak", mixed, "away", "ash", row((0, 4), "elm", "oak", 0, 5, False))

    def test_not_again_elsewhere_though_the_place_has_it_not_here(self):
        there = row((0, 4), "ash", "oak", 0, 5, False)
        self.check("elm", tells_of(ash=[there]), "away", "ash", there)

    def test_again_since_the_giver_rose(self):
        given = row((0, 4), "elm", "ash", 0, 5, False)
        wanted = row((3, 0), "oak", "oak", 2, 27, True)
        self.check("oak", tells_of(ash=[given], elm=[row((0, 3), "ash", "elm", 0, 50, False)]), "again", "ash",
                   wanted[:5] + (50, True))
        self.check("oak", tells_of(ash=[given]), "again", "ash", wanted)
        self.check("elm", tells_of(ash=[row((0, 4), "ash", "oak", 0, 5, False)]), "away", "ash",
                   row((0, 4), "ash", "oak", 0, 5, False))

    def test_away_since_the_giver_rose_no_more(self):
        for rise in (1, 2):
            given = row((0, 4), "elm", "ash", rise, 5, False)
            self.check("oak", tells_of(ash=[given]), "away", "ash", given)
        # The same, but it isn't its home.
        given = row((0, 4), "ash", "oak", 0, 5, False)
        self.check("elm", tells_of(oak=[given]), "away", "oak", given)

    def test_a_place_that_is_none_of_the_towns(self):
        for here in (True, False):
            given = row((0, 4), "fir", "ash", 0, 5, here)
            self.check("oak", tells_of(ash=[given]), "away", "ash", given[:6] + (False,))
            self.check("oak", tells_of(oak=[given]), "away", "oak", given[:6] + (False,))

    def test_a_giver_that_is_none_of_the_towns(self):
        given = row((0, 4), "elm", "fir", 0, 5, False)
        self.check("oak", tells_of(ash=[given]), "away", "ash", given)
        self.check("oak", tells_of(ash=[row((0, 4), "oak", "fir", 0, 5, False)]), "again", "ash",
                   row((3, 0), "oak", "oak", 2, 27, True))

    def test_equal_stamps_at_several_towns(self):
        one = row((0, 4), "ash", "oak", 0, 5, True)
        other = row((0, 4), "elm", "oak", 0, 9, True)
        self.check("oak", tells_of(ash=[one], elm=[other]), "away", "ash", row((0, 4), "ash", "oak", 0, 9, False))
        self.check("elm", tells_of(ash=[one], elm=[other]), "stays", "ash", row((3, 0), "elm", "elm", 0, 27, True))
        other = row((0, 4), "oak", "oak", 0, 9, False)
        self.check("oak", tells_of(elm=[row((0, 4), "elm", "oak", 0, 9, True)], oak=[other]), "away", "elm",
                   row((0, 4), "elm", "oak", 0, 9, False))

    def test_stamps_go_by_the_turn_first(self):
        elder = row((1, 9), "elm", "oak", 0, 5, True)
        newer = row((2, 0), "ash", "oak", 0, 5, True)
        self.check("elm", tells_of(ash=[newer], elm=[elder]), "away", "ash", newer[:6] + (False,))

    def test_the_greatest_free(self):
        self.check("elm", tells_of(
            ash=[row((0, 1), "ash", "oak", 0, 60, False)],
            elm=[row((0, 4), "elm", "oak", 0, 5, True)],
            oak=[row((0, 4), "elm", "oak", 0, 30, False)],
        ), "stays", "elm", row((3, 0), "elm", "elm", 0, 60, True))
        # An elder row's free counts where it is away, too; no floor is looked at then.
        self.check("elm", tells_of(
            ash=[row((0, 4), "ash", "oak", 0, 5, True)],
            oak=[row((0, 1), "ash", "oak", 0, 6, False)],
        ), "away", "ash", row((0, 4), "ash", "oak", 0, 6, False))

    def test_the_floor_of_a_row_that_is_not_there(self):
        there = row((5, 4), "ash", "oak", 0, 5, True)
        tells = (("ash", (0, 0, (there,))), ("elm", (2, 80, ())), ("oak", (2, 90, ())))
        self.check("elm", tells, "away", "ash", row((5, 4), "ash", "oak", 0, 90, False))

    def test_a_town_by_itself(self):
        tells = (("oak", (0, 0, (row((0, 2), "oak", "elm", 0, 3, False),))),)
        self.check("oak", tells, "again", "oak", row((5, 0), "oak", "oak", 5, 18, True), heard=(("oak", 5, 11),))


class TestRounds(unittest.TestCase):
    tells = tells_of(
        ash=[row((0, 1), "ash", "elm", 0, 8, True, (EVE, ANN))],
        elm=[row((0, 1), "ash", "elm", 0, 1, False, (EVE, ANN)), row((0, 2), "elm", "elm", 0, 9, True, (ANN, DAN))],
        oak=[row((0, 1), "elm", "oak", 0, 3, False, (ANN, BOB))],
    )

    def test_pair_by_pair(self):
        paper = (((EVE, ANN), "away", "ash"), ((ANN, DAN), "stays", "elm"), ((ANN, BOB), "away", "oak"))
        self.assertEqual(round_paper(town="elm", tells=self.tells, heard=HEARD), paper)
        wanted = (3, 27, (
            row((0, 1), "ash", "elm", 0, 8, False, (EVE, ANN)),
            row((3, 0), "elm", "elm", 0, 27, True, (ANN, DAN)),
            row((0, 1), "elm", "oak", 0, 3, False, (ANN, BOB)),
        ))
        self.assertEqual(rounded("elm", self.tells, heard=HEARD, span=7), wanted)
        self.assertEqual(rounded(town="elm", tells=self.tells, heard=HEARD, span=7), wanted)
        self.assertEqual(rounded_by(town="elm", tells=self.tells, paper=paper, heard=HEARD, span=7), wanted)
        self.assertIs(type(paper[0]), tuple)

    def test_the_paper_tells_the_way(self):
        # It is the paper by which the rights are told, where it is one that is let by.
        paper = round_paper("ash", self.tells, heard=HEARD)
        self.assertEqual([way for _, way, _ in paper], ["stays", "away", "away"])
        told = rounded_by("ash", self.tells, paper, heard=HEARD, span=1)
        self.assertEqual(told[:2], (3, 21))
        self.assertEqual(told[2][0], row((3, 0), "ash", "ash", 1, 21, True, (EVE, ANN)))

    def test_no_rows_at_all(self):
        self.assertEqual(round_paper("elm", tells_of(), heard=HEARD), ())
        told = rounded("elm", tells_of(), heard=HEARD, span=7)
        self.assertEqual(told, (3, 27, ()))
        self.assertIs(is_mine(told, "elm", (EVE, DAN)), True)
        self.assertEqual(row_of(told, "elm", (EVE, DAN)), ((EVE, DAN), (3, 0), "elm", "elm", 0, 27, True))
        self.assertIs(is_mine(told, "elm", (BOB, CAT)), False)
        self.assertEqual(rounded_by("elm", tells_of(), (), heard=HEARD, span=7), told)
        self.assertEqual(rounded("elm", tells_of(), heard=(("ash", 0, 0), ("elm", 0, 0), ("oak", 0, 0)), span=7),
                         (0, 7, ()))

    def test_a_town_that_tells_nothing(self):
        for act in (lambda town: rounded(town, self.tells, heard=HEARD, span=7),
                    lambda town: round_paper(town, self.tells, heard=HEARD),
                    lambda town: rounded_by(town, self.tells, (), heard=HEARD, span=7)):
            with self.assertRaises(NoTown) as caught:
                act("fir")
            self.assertEqual(caught.exception.name, "fir")

    def test_heard_and_span_go_by_name_alone(self):
        with self.assertRaises(TypeError):
            rounded("elm", self.tells, HEARD, 7)
        with self.assertRaises(TypeError):
            round_paper("elm", self.tells, HEARD)
        with self.assertRaises(TypeError):
            rounded_by("elm", self.tells, (), HEARD, 7)


class TestAnyRounds(unittest.TestCase):
    """What point 21 says, of whatever is told."""

    def some_rights(self, chance):
        pairs = [pair for pair in pairs_of(HANDS) if chance.random() < 0.5]
        rows = [(pair, (chance.randrange(4), chance.randrange(3)), chance.choice(("ash", "elm", "oak", "fir")),
                 chance.choice(("ash", "elm", "oak", "fir")), chance.randrange(3), chance.randrange(40),
                 chance.random() < 0.5) for pair in pairs]
        return (chance.randrange(3), chance.randrange(30), tuple(rows))

    def test_what_is_so_behind_a_round(self):
        chance = random.Random(7)
        for _ in range(300):
            tells = tuple([(town, self.some_rights(chance)) for town in ("ash", "elm", "oak")])
            heard = tuple([(town, chance.randrange(3), chance.randrange(30)) for town, _ in tells])
            town = chance.choice(("ash", "elm", "oak"))
            self.check(town, tells, heard)

    def check(self, town, tells, heard):
        paper = round_paper(town, tells, heard=heard)
        told = rounded(town, tells, heard=heard, span=5)
        self.assertEqual(rounded_by(town, tells, paper, heard=heard, span=5), told)
        self.assertIs(is_rights(told), True)
        turn, floor, rows = told
        self.assertEqual([row[0] for row in rows], [pair for pair, _, _ in paper])
        self.assertEqual([pair for pair, _, _ in paper],
                         sorted({row[0] for _, rights in tells for row in rights[2]}))
        for (pair, way, _), own in zip(paper, rows):
            before = [row_of(rights, teller, pair) for teller, rights in tells]
            self.assertEqual(is_mine(told, town, pair), way in ("stays", "again"))
            self.assertGreaterEqual(own[5], max([row[5] for row in before]))
            if way != "away":
                self.assertGreaterEqual(own[5], floor)
                self.assertEqual(own[1][0], turn)
                stamps = [row[1] for row in before]
                if max(stamps)[0] <= turn:
                    self.assertGreater(own[1], max(stamps))
        for pair in pairs_of(HANDS):
            if pair not in [row[0] for row in rows]:
                self.assertEqual(is_mine(told, town, pair), home_of(pair) == town)


if __name__ == "__main__":
    unittest.main()
