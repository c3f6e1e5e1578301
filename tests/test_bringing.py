import random
import unittest
from itertools import combinations

from samples import ANN, BOB, CAT, DAN, EVE, HANDS
from strangerbench.benches import benches_of, call_at
from strangerbench.bringing import brought, where_lies
from strangerbench.giving import given_to, taken
from strangerbench.handpairs import pairs_of
from strangerbench.holdings import is_mine, row_of

TOWNS = ("ash", "elm", "oak")


def row(pair, place, free, here=True):
    """A row that tells just where the right lies and from when on it is free."""
    return (pair, (0, 1), place, "fir", 0, free, here)


def tells_of(ash=(), elm=(), oak=()):
    """What the three towns tell, each by its rows."""
    return (("ash", (0, 0, tuple(ash))), ("elm", (0, 0, tuple(elm))), ("oak", (0, 0, tuple(oak))))


NOTHING = tells_of()


class TestWhereLies(unittest.TestCase):
    def test_at_home_without_a_row(self):
        self.assertEqual(where_lies(NOTHING, (ANN, BOB)), ("oak", 0))
        self.assertEqual(where_lies(tells=NOTHING, pair=(EVE, ANN)), ("elm", 0))
        tells = (("elm", (2, 30, ())), ("oak", (1, 20, ())))
        self.assertEqual(where_lies(tells, (ANN, BOB)), ("oak", 20))
        self.assertIs(type(where_lies(tells, (ANN, BOB))), tuple)

    def test_where_it_was_brought(self):
        tells = tells_of(elm=[row((ANN, BOB), "elm", 12)], oak=[row((ANN, BOB), "elm", 40, False)])
        self.assertEqual(where_lies(tells, (ANN, BOB)), ("elm", 12))

    def test_nowhere(self):
        tells = tells_of(oak=[row((ANN, BOB), "elm", 40, False)])
        self.assertIsNone(where_lies(tells, (ANN, BOB)))
        self.assertIsNone(where_lies(NOTHING[:2], (ANN, BOB)))

    def test_the_least_of_several(self):
        tells = tells_of(elm=[row((ANN, BOB), "elm", 12)], oak=[row((ANN, BOB), "oak", 4)])
        self.assertEqual(where_lies(tells, (ANN, BOB)), ("elm", 12))


class TestBrought(unittest.TestCase):
    def test_all_at_home(self):
        told = brought(NOTHING, "elm", HANDS, day=3, seats=3)
        self.assertEqual(told, ((EVE, ANN, DAN), (), 3))
        self.assertIs(type(told), tuple)
        told = brought(NOTHING, "oak", HANDS, day=3, seats=3)
        self.assertEqual(told, ((EVE, BOB, CAT), (), 3))
        self.assertEqual(brought(tells=NOTHING, town="ash", hands=HANDS, day=0, seats=2),
                         ((EVE, ANN), (((EVE, ANN), "elm", 0),), 0))

    def test_the_fewest_brought_go_ahead_of_the_day(self):
        tells = tells_of(elm=[row((EVE, ANN), "elm", 90)])
        self.assertEqual(brought(tells, "elm", (EVE, ANN, BOB), day=3, seats=2), ((EVE, ANN), (), 90))

    def test_of_like_ones_the_least_day(self):
        tells = tells_of(elm=[row((EVE, ANN), "elm", 90), row((EVE, DAN), "elm", 50)])
        self.assertEqual(brought(tells, "elm", (EVE, ANN, DAN), day=3, seats=2), ((ANN, DAN), (), 3))
        self.assertEqual(brought(tells, "elm", (EVE, ANN, DAN), day=60, seats=2), ((EVE, DAN), (), 60))
        self.assertEqual(brought(tells, "elm", (EVE, ANN, DAN), day=90, seats=2), ((EVE, ANN), (), 90))
        self.assertEqual(brought(tells, "elm", (EVE, ANN, DAN), day=3, seats=3), ((EVE, ANN, DAN), (), 90))

    def test_rows_and_the_greater_free_of_both(self):
        tells = tells_of(
            ash=[row((ANN, DAN), "ash", 10)],
            elm=[row((ANN, DAN), "ash", 25, False), row((ANN, BOB), "oak", 5, False)],
            oak=[row((ANN, BOB), "oak", 15)],
        )
        told = brought(tells, "elm", (ANN, DAN, BOB), day=3, seats=3)
        rows = (((ANN, DAN), "ash", 25), ((ANN, BOB), "oak", 15), ((DAN, BOB), "oak", 0))
        self.assertEqual(told, ((ANN, DAN, BOB), rows, 25))
        self.assertIs(type(told[1]), tuple)
        self.assertIs(type(told[1][0]), tuple)
        self.assertEqual(brought(tells, "elm", (ANN, DAN, BOB), day=30, seats=3), ((ANN, DAN, BOB), rows, 30))
        # Two have to be brought for the one bench, one each for those of two seats.
        self.assertEqual(brought(tells, "elm", (ANN, DAN, BOB), day=3, seats=2), ((DAN, BOB), rows[2:], 3))

    def test_the_free_of_what_is_there_is_the_towns_own(self):
        tells = tells_of(elm=[row((ANN, DAN), "elm", 10)], oak=[row((ANN, DAN), "elm", 70, False)])
        self.assertEqual(brought(tells, "elm", (ANN, DAN), day=3, seats=2), ((ANN, DAN), (), 10))

    def test_a_pair_that_lies_nowhere(self):
        lost = row((EVE, ANN), "ash", 0, False)
        tells = tells_of(elm=[lost])
        self.assertEqual(brought(tells, "elm", (EVE, ANN, DAN), day=0, seats=2), ((EVE, DAN), (), 0))
        self.assertIsNone(brought(tells, "elm", (EVE, ANN, DAN), day=0, seats=3))
        self.assertIsNone(brought(tells, "elm", (EVE, ANN), day=0, seats=2))
        self.assertEqual(brought(tells, "oak", (EVE, ANN, BOB, CAT), day=0, seats=3)[0], (EVE, BOB, CAT))
        self.assertIsNone(brought(tells, "oak", (EVE, ANN, BOB, CAT), day=0, seats=4))

    def test_fewer_hands_than_seats(self):
        self.assertIsNone(brought(NOTHING, "elm", (), day=0, seats=2))
        self.assertIsNone(brought(NOTHING, "elm", (ANN,), day=0, seats=2))
        self.assertIsNone(brought(NOTHING, "elm", HANDS[:4], day=0, seats=5))
        self.assertEqual(brought(NOTHING, "elm", HANDS, day=0, seats=5)[0], HANDS)

    def test_day_and_seats_go_by_name_alone(self):
        with self.assertRaises(TypeError):
            brought(NOTHING, "elm", HANDS, 0, 2)


class TestAnyTells(unittest.TestCase):
    def some_tells(self, chance):
        rows = {town: [] for town in TOWNS}
        for pair in pairs_of(HANDS):
            place = chance.choice(TOWNS + ("fir",))
            for town in TOWNS:
                rows[town].append(row(pair, place, chance.randrange(0, 30, 5), place == town))
        return tuple([(town, (0, 0, tuple(rows[town]))) for town in TOWNS])

    def best_by_looking(self, tells, town, hands, day, seats):
        plans = []
        for bench in combinations(hands, seats):
            places = [where_lies(tells, pair) for pair in pairs_of(bench)]
            if None in places:
                continue
            rows, days = [], [day]
            for pair, (place, free) in zip(pairs_of(bench), places):
                if place != town:
                    free = max(free, row_of(dict(tells)[town], town, pair)[5])
                    rows.append((pair, place, free))
                days.append(free)
            plans.append((len(rows), max(days), bench, tuple(rows)))
        if not plans:
            return None
        _, best_day, bench, rows = sorted(plans)[0]
        return (bench, rows, best_day)

    def test_against_looking(self):
        chance = random.Random(5)
        none = 0
        for _ in range(80):
            tells = self.some_tells(chance)
            for seats in (2, 3, 4):
                day = chance.randrange(30)
                told = brought(tells, "elm", HANDS, day=day, seats=seats)
                self.assertEqual(told, self.best_by_looking(tells, "elm", HANDS, day, seats))
                if told is None:
                    none += 1
                else:
                    self.check_bench(tells, told, seats)
        self.assertGreater(none, 0)

    def check_bench(self, tells, told, seats):
        """What point 72 says: once these are given, they are a bench of the call there."""
        bench, rows, day = told
        towns = dict(tells)
        heard = tuple([(town, 0, 0) for town in TOWNS])
        for pair, place, free in rows:
            self.assertIs(is_mine(towns[place], place, pair), True)
            towns[place], letter = given_to(towns[place], place, pair, "elm", rise=0)
            towns["elm"] = taken(towns["elm"], "elm", letter, heard=heard)
            self.assertEqual(row_of(towns["elm"], "elm", pair)[5], free)
        self.assertIn(bench, benches_of(call_at(towns["elm"], "elm", HANDS, day=day, seats=seats)))


if __name__ == "__main__":
    unittest.main()
