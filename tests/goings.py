"""Worlds at which rows are done: one row of each kind, and whichever rows, with all looked at behind each of them."""
from samples import ANN, BOB, DAN, HANDS, RULE, refusal
from strangerbench.benches import call_at
from strangerbench.bookchecker import lets_book
from strangerbench.chests import first_chest, risen_chest, saved_of
from strangerbench.errors import BenchError, LackError
from strangerbench.handpairs import pairs_of
from strangerbench.holdings import is_mine, row_of
from strangerbench.letterkinds import is_chest
from strangerbench.letterscome import came
from strangerbench.letting import each_alone, lacks
from strangerbench.matterkinds import VERDICTS
from strangerbench.notes import note_of
from strangerbench.paths import path_of, path_voices, root_of
from strangerbench.replaying import replayed
from strangerbench.townacts import acted
from strangerbench.townlooks import held_twice, mine_at
from strangerbench.worlds import World

TOWNS = RULE[0]
PAIRS = pairs_of(HANDS)
ALONE = (("elm",), 3, 2, 7)
TWO = (("elm", "oak"), 3, 2, 7)
A, B, C = [("elm", 0, number) for number in range(3)]
OPEN = ("act", "elm", ("open", None, (ANN, DAN)))
VOTES = (("act", "elm", ("vote", A, ANN, "yes")), ("act", "elm", ("vote", A, DAN, "yes")))
# A verdict at elm, and a right lent to it by oak.
BUSY = (OPEN,) + VOTES + (
    ("act", "elm", ("note", A, "oak")),
    ("act", "oak", ("give", (ANN, BOB), "elm")),
    ("day", 3),
    ("come", 0),
    ("come", 1),
    ("save", "elm"),
    ("act", "elm", ("open", None, (ANN, BOB))),
    ("rise", "elm", 1),
)


def world_of(rows, rule=RULE):
    """A world at which these rows were done, by what stands for each of them."""
    world = World(rule)
    for row in rows:
        do(world, row)
    return world


def do(world, row):
    """Does the row by the method that stands for it."""
    word, *things = row
    if word == "day":
        return world.to_day(*things)
    if word == "act":
        return world.do_act(*things)
    if word == "come":
        return world.let_come(*things)
    if word == "save":
        return world.save_town(*things)
    return world.fall(*things)


def all_told(world):
    """All that a world tells of itself."""
    towns = world.log()[0][1][0]
    return (
        world.day_now(), [(town, world.chest_of(town), world.is_wary(town), world.saved_many(town)) for town in towns],
        world.mail(), world.burnings_ever(), world.table_ever(), world.log(), len(world), str(world), world.walks(),
    )


class Shadow:
    """What is so at a world of the rule, put together anew from what each deed does at a chest."""

    def __init__(self):
        self.day = 0
        self.chests = {town: first_chest(RULE, town) for town in TOWNS}
        self.saved = {town: [saved_of(self.chests[town])] for town in TOWNS}
        self.rises = {town: 0 for town in TOWNS}
        self.mail = []
        self.rows = []
        # All books that ever were.
        self.books = []

    def do(self, row):
        """Does the row as point 79 tells; told is what that tells, or the refusal."""
        told = getattr(self, "do_" + row[0])(*row[1:])
        if type(told) is not tuple or not str(told[0]).startswith("No"):
            self.rows.append(row)
            self.books.extend([chest[0] for chest in self.chests.values() if chest[0] not in self.books[-9:]])
        return told

    def do_day(self, day):
        if day < self.day:
            return ("NoDeed", "day")
        self.day = day
        return None

    def do_act(self, town, act):
        if town not in TOWNS:
            return ("NoTown", town)
        try:
            chest, told, letters = acted(RULE, self.chests[town], act, day=self.day)
        except (BenchError, LackError):
            return refusal(acted, RULE, self.chests[town], act, day=self.day)
        self.chests[town] = chest
        self.mail.extend(letters)
        return told

    def do_come(self, n):
        if n not in range(len(self.mail)):
            return ("NoStep", n)
        town = self.mail[n][2]
        self.chests[town], word, letters = came(RULE, self.chests[town], self.mail[n])
        self.mail.extend(letters)
        return word

    def do_save(self, town):
        if town not in TOWNS:
            return ("NoTown", town)
        self.saved[town].append(saved_of(self.chests[town]))
        return len(self.saved[town]) - 1

    def do_rise(self, town, n):
        if town not in TOWNS:
            return ("NoTown", town)
        if n is not None and n not in range(len(self.saved[town])):
            return ("NoStep", n)
        saved = saved_of(self.chests[town]) if n is None else self.saved[town][n]
        self.rises[town] += 1
        self.chests[town] = risen_chest(RULE, saved, rise=self.rises[town], day=self.day)
        return self.rises[town]

    def truth(self):
        """All burnings of all books that ever were, and the table of all their matters."""
        burnings, table = set(), {}
        for book in self.books:
            burnings.update(book[4])
            for matter in book[3]:
                voices = path_voices(book[3], matter[0])
                if len(voices) >= len(table.get(matter[0], (None, ()))[1]):
                    table[matter[0]] = (root_of(book[3], matter[0]), voices)
        return tuple(sorted(burnings)), tuple(sorted(set(table.values())))


class Going:
    """A world with its shadow, at which whichever rows are done."""

    def __init__(self, case, chance):
        self.case = case
        self.chance = chance
        self.world = World(RULE)
        self.shadow = Shadow()
        self.words = {}

    def do(self, row):
        """Does the row at both; what is refused changes nothing."""
        before = self.world.log()
        try:
            told = do(self.world, row)
        except (BenchError, LackError) as refused:
            told = (type(refused).__name__,) + tuple(vars(refused).values())
            self.case.assertEqual(self.world.log(), before)
        self.case.assertEqual(told, self.shadow.do(row), row)
        word = row[2][0] if row[0] == "act" else row[0]
        if type(told) is tuple and str(told[0]).startswith("No"):
            word = told[0]
        elif row[0] == "come":
            word = told
        elif word == "rise":
            self.case.assertNotIn(None, [matter[6] for matter in self.world.chest_of(row[1])[0][3]])
        if told == "sure":
            self.check_sure(before, self.world.mail()[row[1]][2])
        self.words[word] = self.words.get(word, 0) + 1
        return told

    def check_sure(self, log, town):
        """What point 21 says of the rights of a town behind its round; log is what was done ahead of that."""
        book, heard, tells, _ = self.world.chest_of(town)
        turn, floor, rows = book[2]
        self.case.assertIsNone(tells)
        self.case.assertEqual(turn, sum([rise for _, rise, _ in heard]))
        self.case.assertEqual(floor, max([day for _, _, day in heard]) + RULE[3])
        ahead = {row[0]: row for row in replayed(log).chest_of(town)[0][2][2]}
        self.case.assertEqual([pair for pair in ahead if pair not in [row[0] for row in rows]], [])
        for row in rows:
            known = ahead.get(row[0], row)
            self.case.assertGreaterEqual(row[5], known[5])
            if row[2] == town and row[6]:
                self.case.assertEqual((row[1][0], row[3], row[4]), (turn, town, book[1]))
                self.case.assertGreaterEqual(row[5], floor)
                if known != row:
                    self.case.assertGreater(row[1], known[1])
            else:
                self.case.assertIs(row[6], False)

    def some_row(self, falls):
        """A row, most often one that can be done; one by which a town falls only where falls may be."""
        chance, world = self.chance, self.world
        town = chance.choice(TOWNS)
        if chance.random() < 0.02:
            return chance.choice((("day", max(0, world.day_now() - 1)), ("come", -1), ("come", len(world.mail())),
                                  ("save", "fir"), ("rise", "fir", None), ("rise", town, world.saved_many(town)),
                                  ("rise", town, -1), ("act", "fir", ("ask",))))
        kind = chance.randrange(20)
        if kind < 2:
            return ("day", world.day_now() + chance.choice((0, 1, 2, 8)))
        if kind == 2:
            return ("save", town)
        if kind == 3 and falls and chance.random() < 0.3:
            return ("rise", town, chance.choice([None] + list(range(world.saved_many(town)))))
        if kind < 10 and world.mail():
            many = len(world.mail())
            return ("come", chance.choice(list(range(many)) + list(range(max(0, many - 5), many)) * 3))
        return ("act", town, self.some_act(town))

    def some_act(self, town):
        """An act, most often one that the town may do."""
        chance = self.chance
        rights, matters = self.world.chest_of(town)[0][2:4]
        others = [other for other in TOWNS if other != town]
        if self.world.is_wary(town) and chance.random() < 0.8:
            return ("ask",)
        kind = chance.randrange(20)
        if kind < 3:
            mine = [pair for pair in PAIRS if is_mine(rights, town, pair)]
            return ("give", chance.choice(mine or PAIRS), chance.choice(others))
        if kind == 3:
            given = [row[0] for row in rights[2] if row[3] == town and row[2] != town]
            return ("send", chance.choice(given or PAIRS))
        ended = [matter[0] for matter in matters if matter[6] in VERDICTS]
        if kind in (4, 5) and ended and chance.random() < 0.7:
            return ("note", chance.choice(ended), chance.choice(others))
        going = [matter for matter in matters if matter[6] is None]
        if kind == 5 or not going:
            free = call_at(rights, town, HANDS, day=self.world.day_now(), seats=2)[1]
            hands = chance.choice(free + ((), (chance.choice(HANDS),), tuple(sorted(chance.sample(HANDS, 4)))))
            return ("open", chance.choice(ended[-2:] + [None]), hands)
        return self.some_act_in(town, chance.choice(going), ended, kind)

    def some_act_in(self, town, matter, ended, kind):
        """An act in a matter that is open, most often one that may be done."""
        chance = self.chance
        name, sitters, votes = matter[0], matter[2], matter[5]
        book, _, _, news = self.world.chest_of(town)
        known = list(news) + [note_of(book[3], one) for one in ended]
        if kind < 9 and (known or kind == 8):
            read = [note[0] for note in matter[4]] + list(path_of(book[3], name))
            able = [note for note in known if note[0] not in read
                    and lacks(RULE, book, name, note[1], day=self.world.day_now()) is None]
            return ("read", name, chance.choice([note[0] for note in able * 9 + known] or [("elm", 9, 9)]))
        if kind < 13:
            alone = each_alone(RULE, book, name, HANDS, day=self.world.day_now())
            able = [hand for hand, lack in alone if lack is None and hand not in sitters]
            return ("seat", name, chance.choice(able * 3 + list(HANDS)))
        if kind < 19 and sitters:
            silent = [hand for hand in sitters if hand not in [vote[0] for vote in votes]]
            return ("vote", name, chance.choice(silent or sitters), chance.choice(("yes", "yes", "yes", "no")))
        return chance.choice((("leave", name, chance.choice(sitters or HANDS)), ("lay", name), ("ask",)))

    def check(self):
        """All that the world tells is as the shadow has it, and what has to hold of each world holds."""
        world, shadow, case = self.world, self.shadow, self.case
        case.assertEqual(world.day_now(), shadow.day)
        for town in TOWNS:
            chest = world.chest_of(town)
            case.assertEqual(chest, shadow.chests[town])
            case.assertIs(world.is_wary(town), chest[2] is not None)
            case.assertEqual(world.saved_many(town), len(shadow.saved[town]))
            case.assertIs(is_chest(chest), True)
            case.assertIs(lets_book(RULE, chest[0]), True)
            case.assertEqual([rise for one, rise, _ in chest[1] if one == town], [chest[0][1]])
        case.assertEqual(world.mail(), tuple(shadow.mail))
        case.assertEqual((world.burnings_ever(), world.table_ever()), shadow.truth())
        case.assertEqual(world.log(), (("world", RULE),) + tuple(shadow.rows))
        case.assertEqual(len(world), len(shadow.rows))
        tells = tuple([(town, world.chest_of(town)[0][2]) for town in TOWNS])
        wary = tuple([town for town in TOWNS if world.is_wary(town)])
        case.assertEqual(held_twice(tells, wary=wary), ())

    def check_truth(self):
        """Burnings of one right are a span apart, and pay the table."""
        burnings, days = self.world.burnings_ever(), {}
        for pair, _, day in sorted(burnings, key=lambda burning: burning[2]):
            if pair in days:
                self.case.assertGreaterEqual(day, days[pair] + RULE[3])
            days[pair] = day
        paid = {burning[:2] for burning in burnings}
        for root, hands in self.world.table_ever():
            for pair in pairs_of(hands):
                self.case.assertIn((pair, root), paid)

    def ask_all(self):
        """Wary towns ask, and all that is sent so comes, again as long as one is wary; nobody rises."""
        for _ in range(4):
            seen = len(self.world.mail())
            for town in TOWNS:
                if self.world.is_wary(town):
                    self.do(("act", town, ("ask",)))
            while seen < len(self.world.mail()):
                self.do(("come", seen))
                seen += 1
        self.case.assertEqual([town for town in TOWNS if self.world.is_wary(town)], [])

    def found_again(self):
        """Each right is at a town, or comes by its last letter, or is at its home once that rose and asked."""
        for pair in PAIRS:
            tells = tuple([(town, self.world.chest_of(town)[0][2]) for town in TOWNS])
            if mine_at(tells, pair) or self.comes_by_letter(pair, tells):
                continue
            home = pair[1][0]
            self.do(("rise", home, None))
            self.ask_all()
            self.case.assertEqual(mine_at(((home, self.world.chest_of(home)[0][2]),), pair), (home,))
            self.words["home"] = self.words.get("home", 0) + 1

    def comes_by_letter(self, pair, tells):
        """Whether the letter of some town's row may be sent, and is taken."""
        for town, rights in tells:
            _, _, place, giver, _, _, _ = row_of(rights, town, pair)
            if giver == town and place != town and place in TOWNS:
                self.do(("act", town, ("send", pair)))
                if self.do(("come", len(self.world.mail()) - 1)) == "taken":
                    self.words["sent"] = self.words.get("sent", 0) + 1
                    return True
        return False
