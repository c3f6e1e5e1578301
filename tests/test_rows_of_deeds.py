"""What has to hold behind any row of deeds, tried with many rows."""
import random
import unittest

from samples import ANN, BOB, CAT, DAN, EVE, HANDS, RULE
from strangerbench.bookchecker import lets_book
from strangerbench.errors import BenchError, LackError, NoRight
from strangerbench.giving import given_to, letter_of, taken
from strangerbench.handpairs import pairs_of
from strangerbench.holdings import burn_bars, burnt, is_mine, row_of
from strangerbench.letting import lacks
from strangerbench.matterdeeds import laid, left, opened, risen, seated, voted
from strangerbench.matterkinds import VERDICTS, first_book
from strangerbench.paths import path_voices, root_of
from strangerbench.rightkinds import is_heard, is_rights
from strangerbench.roundings import rounded

TOWNS = ("ash", "elm", "oak")
SPAN = 7
FRESH = tuple([(town, 0, 0) for town in TOWNS])
PAIRS = pairs_of(HANDS)


class TestGivingAndTaking(unittest.TestCase):
    """Point 17."""

    def setUp(self):
        self.chance = random.Random(17)

    def begin(self):
        self.rights = {town: (0, 0, ()) for town in TOWNS}
        self.letters = []
        self.last = {}
        self.burnings = {pair: [] for pair in PAIRS}
        self.day = 0

    def burn(self, town, pair):
        if burn_bars(self.rights[town], town, pair, day=self.day) is None:
            self.rights[town] = burnt(self.rights[town], town, (pair,), day=self.day, span=SPAN)
            self.burnings[pair].append(self.day)

    def give(self, town, pair):
        if is_mine(self.rights[town], town, pair):
            to = self.chance.choice([other for other in TOWNS if other != town])
            self.rights[town], letter = given_to(self.rights[town], town, pair, to, rise=0)
            self.letters.append(letter)
            self.last[pair] = letter

    def send(self, town, pair):
        try:
            self.letters.append(letter_of(self.rights[town], town, pair))
        except NoRight:
            pass

    def come(self, town, pair):
        if not self.letters:
            return
        letter = self.chance.choice(self.letters)
        town = letter[2]
        before = self.rights[town]
        behind = taken(before, town, letter, heard=FRESH)
        self.assertEqual(taken(behind, town, letter, heard=FRESH), behind)
        if behind != before:
            pair = letter[3][0]
            self.assertGreater(row_of(behind, town, pair)[1], row_of(before, town, pair)[1])
        self.rights[town] = behind

    def check(self, before):
        for town in TOWNS:
            self.assertIs(is_rights(self.rights[town]), True)
            for pair in PAIRS:
                one, other = row_of(before[town], town, pair), row_of(self.rights[town], town, pair)
                self.assertGreaterEqual(other[5], one[5])
                self.assertGreaterEqual(other[1], one[1])
        for pair in PAIRS:
            mine = [town for town in TOWNS if is_mine(self.rights[town], town, pair)]
            self.assertLessEqual(len(mine), 1)
            if not mine:
                _, giver, to, _ = self.last[pair]
                again = letter_of(self.rights[giver], giver, pair)
                self.assertEqual(again, self.last[pair])
                self.assertIs(is_mine(taken(self.rights[to], to, again, heard=FRESH), to, pair), True)

    def test_rows(self):
        for _ in range(60):
            self.begin()
            for _ in range(40):
                before = dict(self.rights)
                self.day += self.chance.randrange(3)
                act = self.chance.choice((self.burn, self.give, self.give, self.send, self.come, self.come))
                act(self.chance.choice(TOWNS), self.chance.choice(PAIRS[:4]))
                self.check(before)
            for days in self.burnings.values():
                for one, other in zip(days, days[1:]):
                    self.assertGreaterEqual(other, one + SPAN)


class Town:
    """A town that may fall, with just its rights, what it has heard, and its stone."""

    def __init__(self, name):
        self.name = name
        self.rights = (0, 0, ())
        self.heard = FRESH
        self.tells = None
        self.stone = (0, 0)
        self.saved = [(self.rights, self.heard)]

    def hear(self, heard):
        """Hears the greater rises; the tells are dropped where that turns anything."""
        both = tuple([(one[0],) + max(one[1:], other[1:]) for one, other in zip(self.heard, heard)])
        if both != self.heard:
            self.heard = both
            if self.tells is not None:
                self.tells = {}

    def fall(self, saved, day):
        self.stone = (self.stone[0] + 1, day)
        self.rights, heard = saved
        self.heard = tuple([(town,) + self.stone if town == self.name else (town, rise, then)
                            for town, rise, then in heard])
        self.tells = {}

    def is_told(self, teller, rights, heard):
        """What a tell comes to; the round ends by the last one."""
        self.hear(heard)
        if self.tells is None or heard != self.heard or teller in self.tells:
            return
        self.tells[teller] = rights
        if len(self.tells) == len(TOWNS) - 1:
            told = tuple(sorted(list(self.tells.items()) + [(self.name, self.rights)]))
            self.rights = rounded(self.name, told, heard=self.heard, span=SPAN)
            self.tells = None


class TestFallsAndRounds(unittest.TestCase):
    """The first of M4, and M1, through falls with any book that was saved."""

    def setUp(self):
        self.chance = random.Random(4)

    def begin(self):
        self.towns = {town: Town(town) for town in TOWNS}
        self.mail = []
        self.burnings = {pair: [] for pair in PAIRS}
        self.day = 0
        self.rounds = 0

    def act(self, town, pair):
        kind = self.chance.randrange(12)
        sure = town.tells is None
        if kind < 3 and sure and is_mine(town.rights, town.name, pair):
            to = self.chance.choice([other for other in TOWNS if other != town.name])
            town.rights, letter = given_to(town.rights, town.name, pair, to, rise=town.stone[0])
            self.mail.append(letter)
        elif kind < 5 and sure and burn_bars(town.rights, town.name, pair, day=self.day) is None:
            town.rights = burnt(town.rights, town.name, (pair,), day=self.day, span=SPAN)
            self.burnings[pair].append(self.day)
        elif kind == 5:
            town.saved.append((town.rights, town.heard))
        elif kind == 6 and self.chance.random() < 0.5:
            town.fall(self.chance.choice(town.saved + [(town.rights, town.heard)]), self.day)
        elif kind == 7 and not sure:
            self.mail += [("ask", town.name, other, town.heard) for other in TOWNS if other != town.name]
        elif kind == 8 and sure:
            try:
                self.mail.append(letter_of(town.rights, town.name, pair))
            except NoRight:
                pass
        elif self.mail:
            self.come(self.chance.choice(self.mail[-8:] + self.mail))

    def come(self, letter):
        town = self.towns[letter[2]]
        if letter[0] == "give":
            if town.tells is None:
                town.rights = taken(town.rights, town.name, letter, heard=town.heard)
        elif letter[0] == "ask":
            town.hear(letter[3])
            self.mail.append(("tell", town.name, letter[1], town.rights, town.heard))
        else:
            wary = town.tells is not None
            town.is_told(letter[1], letter[3], letter[4])
            self.rounds += wary and town.tells is None

    def check(self):
        for pair in PAIRS[:4]:
            mine = [town.name for town in self.towns.values()
                    if town.tells is None and is_mine(town.rights, town.name, pair)]
            self.assertLessEqual(len(mine), 1)
            days = self.burnings[pair]
            for one, other in zip(days, days[1:]):
                self.assertGreaterEqual(other, one + SPAN)

    def test_rows(self):
        rounds = 0
        for _ in range(120):
            self.begin()
            for _ in range(150):
                self.day += self.chance.randrange(4) == 0
                self.act(self.towns[self.chance.choice(TOWNS)], self.chance.choice(PAIRS[:4]))
                self.check()
            for town in self.towns.values():
                self.assertIs(is_rights(town.rights), True)
                self.assertIs(is_heard(town.heard), True)
            rounds += self.rounds
        self.assertGreater(rounds, 50)


class TestDeedsAtABook(unittest.TestCase):
    """Point 37, and that what is refused turns nothing."""

    def setUp(self):
        self.chance = random.Random(37)

    def some_hands(self, many):
        return tuple(sorted(self.chance.sample((EVE, ANN, DAN, BOB), self.chance.randrange(many + 1))))

    def some_deed(self, book, day):
        names = [matter[0] for matter in book[3]]
        if not names:
            return opened(RULE, book, self.some_hands(3), day=day)
        name = self.chance.choice(names[-4:])
        hand = self.chance.choice(HANDS)
        verdict = self.chance.choice(VERDICTS)
        kind = self.chance.randrange(16)
        if kind == 0:
            return opened(RULE, book, self.some_hands(3), day=day)
        if kind < 4:
            return opened(RULE, book, self.some_hands(2), day=day, lower=name)
        if kind < 7:
            return seated(RULE, book, name, hand, day=day)
        if kind == 7:
            return left(book, name, hand)
        if kind == 8:
            return laid(book, name)
        if kind == 9:
            return risen(book, rise=book[1] + self.chance.randrange(1, 3))
        return voted(RULE, book, name, hand, verdict=verdict)

    def test_rows(self):
        deepest = 0
        for _ in range(60):
            book, day = first_book("elm"), 0
            for _ in range(50):
                day += self.chance.randrange(3)
                try:
                    behind = self.some_deed(book, day)
                except (BenchError, LackError):
                    continue
                self.assertIs(lets_book(RULE, behind), True)
                self.check_grown(book, behind)
                book = behind
            for matter in book[3]:
                deepest = max(deepest, matter[0] != root_of(book[3], matter[0]))
        self.assertEqual(deepest, 1)

    def check_grown(self, book, behind):
        self.assertLessEqual(set(book[4]), set(behind[4]))
        for matter in book[3]:
            self.assertLessEqual(set(path_voices(book[3], matter[0])), set(path_voices(behind[3], matter[0])))
        for pair in PAIRS:
            self.assertLessEqual(row_of(book[2], "elm", pair)[5], row_of(behind[2], "elm", pair)[5])

    def test_two_appeals_of_one_matter(self):
        book = opened(RULE, first_book("elm"), (EVE, ANN), day=0)
        name = ("elm", 0, 0)
        book = voted(RULE, voted(RULE, book, name, EVE), name, ANN)
        book = opened(RULE, book, (DAN,), day=1, lower=name)
        burnings = book[4]
        self.assertEqual(len(burnings), 3)
        # Whoever meets in both is burnt once, on whatever day, and lacks nothing.
        self.assertIsNotNone(lacks(RULE, opened(RULE, book, (EVE,), day=1), ("elm", 0, 2), (ANN, DAN), day=1))
        book = opened(RULE, book, (EVE, ANN, DAN), day=2, lower=name)
        self.assertEqual(book[4], burnings)
        self.assertEqual(book[3][2][3], (EVE, ANN, DAN))
        self.assertIs(lets_book(RULE, book), True)
        again = risen(book, rise=1)
        self.assertIs(lets_book(RULE, again), True)
        again = opened(RULE, again, (EVE, DAN), day=3, lower=name)
        self.assertEqual(again[4], burnings)
        self.assertIs(lets_book(RULE, again), True)


if __name__ == "__main__":
    unittest.main()
