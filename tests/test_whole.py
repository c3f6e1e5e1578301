"""What the document says of the whole program, behind any rows of deeds at a world of several towns."""
import random
import unittest

from goings import RULE, TOWNS, Going, all_told, do
from samples import HANDS, refusal
from strangerbench.benches import benches_of, call_at, unfree
from strangerbench.bounding import bound_of, greatest
from strangerbench.bringing import brought, where_lies
from strangerbench.handpairs import pairs_of
from strangerbench.matterkinds import VERDICTS
from strangerbench.nonechecker import lets_seating
from strangerbench.nonepapers import seat_or_none
from strangerbench.notes import note_of
from strangerbench.packchecker import lets_packing
from strangerbench.packpapers import pack_paper
from strangerbench.paths import path_voices
from strangerbench.replaying import replayed
from strangerbench.resting import shaken
from strangerbench.righttexts import rights_text
from strangerbench.rightreadings import rights_read
from strangerbench.shakechecker import lets_shaken
from strangerbench.shaking import shake_paper
from strangerbench.sourcechecker import lets_source
from strangerbench.sources import source_of
from strangerbench.sway import most_of, swayed
from strangerbench.tables import lacking, table_of
from strangerbench.twice import twice_paper
from strangerbench.twicechecker import lets_twice
from strangerbench.worldlogs import is_log
from strangerbench.worldreadings import read_log, read_row
from strangerbench.worlds import World
from strangerbench.worldtexts import deed_line, log_lines


def all_matters(world):
    """The matters of all books, put together."""
    return tuple(sorted([matter for town in TOWNS for matter in world.chest_of(town)[0][3]]))


def tells_of(world):
    """The rights of all towns."""
    return tuple([(town, world.chest_of(town)[0][2]) for town in TOWNS])


class WholeCase(unittest.TestCase):
    def goings(self, seed, many, steps, falls):
        chance = random.Random(seed)
        for _ in range(many):
            going = Going(self, chance)
            for _ in range(steps):
                going.do(going.some_row(falls))
            yield going


class TestTruth(WholeCase):
    def check_apart(self, world):
        burnings = world.burnings_ever()
        paper = twice_paper(RULE, burnings)
        self.assertEqual(paper[0], "apart")
        self.assertEqual(lets_twice(RULE, burnings, paper), "apart")
        for one in burnings[:20]:
            for other in burnings[:20]:
                self.assertEqual(refusal(lets_twice, RULE, burnings, ("twice", one, other))[0], "NoPaper")

    def check_sway(self, world):
        burnings, table = world.burnings_ever(), world.table_ever()
        self.assertIsNone(lacking(table, burnings))
        for start in range(len(HANDS)):
            for end in range(start + 1, len(HANDS) + 1):
                hands = HANDS[start:end]
                many, day = most_of(RULE, table, burnings, hands)
                self.assertLessEqual(many, bound_of(RULE, len(hands)))
                if many:
                    self.assertEqual(len(swayed(RULE, table, burnings, hands, day=day)), many)
        for many in range(len(HANDS) + 1):
            told = greatest(RULE, table, burnings, many)
            self.assertLessEqual(told[0], bound_of(RULE, many))
            self.assertEqual(most_of(RULE, table, burnings, told[1]), (told[0], told[2]))

    def test_with_falls(self):
        most = []
        for going in self.goings(81, 30, 150, True):
            self.check_apart(going.world)
            self.check_sway(going.world)
            most.append(most_of(RULE, going.world.table_ever(), going.world.burnings_ever(), HANDS)[0])
        # It is no idle bound: there is sway in some of them.
        self.assertGreater(max(most), 2)

    def test_without_falls_it_is_in_the_books(self):
        for going in self.goings(80, 15, 120, False):
            world = going.world
            self.check_apart(world)
            self.check_sway(world)
            books = [world.chest_of(town)[0] for town in TOWNS]
            self.assertEqual(world.burnings_ever(), tuple(sorted([one for book in books for one in book[4]])))
            self.assertEqual(world.table_ever(), table_of(all_matters(world)))
            for book in books:
                self.assertIsNone(lacking(table_of(book[3]), book[4]))


class TestLogs(WholeCase):
    def test_written_read_and_done_again(self):
        for going in self.goings(85, 12, 100, True):
            log = going.world.log()
            lines = log_lines(log)
            self.assertEqual(str(going.world), " / ".join(lines))
            self.assertEqual(read_log(lines), log)
            self.assertIs(is_log(read_log(lines)), True)
            for row, line in zip(log[1:], lines[1:]):
                self.assertEqual((deed_line(row), read_row(line)), (line, row))
            again = replayed(read_log(lines))
            self.assertEqual(again, going.world)
            self.assertEqual(all_told(again), all_told(going.world))
            for _ in range(15):
                row = going.some_row(True)
                many, told = len(going.world), going.do(row)
                if len(going.world) > many:
                    self.assertEqual(do(again, row), told)
                else:
                    self.assertEqual(refusal(do, again, row), told)
            self.assertEqual(all_told(again), all_told(going.world))

    def test_with_rows_otherwise(self):
        chance, words = random.Random(86), []
        for going in self.goings(87, 12, 60, True):
            rows = list(going.world.log()[1:])
            for _ in range(12):
                at, other = chance.randrange(len(rows)), chance.randrange(len(rows))
                turned = list(rows)
                turned[at], turned[other] = turned[other], turned[at]
                if chance.random() < 0.5:
                    del turned[chance.randrange(len(turned))]
                world, wanted = World(RULE), None
                for row in turned:
                    try:
                        do(world, row)
                    except (ValueError, LookupError) as refused:
                        wanted = (type(refused).__name__,) + tuple(vars(refused).values())
                        break
                log = (("world", RULE),) + tuple(turned)
                self.assertIs(is_log(log), True)
                words.append(wanted)
                if wanted is None:
                    self.assertEqual(all_told(replayed(log)), all_told(world))
                else:
                    self.assertEqual(refusal(replayed, log), wanted)
        self.assertGreater(words.count(None), 10)
        self.assertGreater(len(words) - words.count(None), 10)


class TestNotes(WholeCase):
    def test_whence_voices_come(self):
        # Where no town fell, each voice comes from where its hand sat, through however many notes.
        lengths = []
        for going in self.goings(49, 25, 200, False):
            matters = all_matters(going.world)
            for matter in matters:
                name = matter[0]
                voices = path_voices(matters, name)
                for hand in HANDS:
                    source = source_of(matters, name, hand)
                    self.assertEqual(source is not None, hand in voices)
                    if source is not None:
                        self.assertEqual(lets_source(matters, name, hand, source), "sat")
                        lengths.append(len(source))
        self.assertGreater(len([many for many in lengths if many > 1]), 50)
        self.assertGreater(max(lengths), 2)

    def test_voices_of_a_note_stay(self):
        chance = random.Random(42)
        for _ in range(12):
            going, known = Going(self, chance), {}
            for _ in range(150):
                going.do(going.some_row(True))
                for town in TOWNS:
                    matters = going.world.chest_of(town)[0][3]
                    for matter in matters:
                        if matter[6] in VERDICTS:
                            voices = note_of(matters, matter[0])[1]
                            self.assertEqual(known.setdefault(matter[0], voices), voices)

    def test_what_is_shaken(self):
        words = []
        for going in self.goings(47, 40, 200, False):
            for town in TOWNS:
                book, _, _, news = going.world.chest_of(town)
                # Of some of them it hears the other verdict later.
                news += tuple([(name, voices, "no" if told == "yes" else "yes") for name, voices, told in news[::2]])
                for matters in (book[3], all_matters(going.world)):
                    shook = shaken(matters, news=news)
                    for matter in matters:
                        paper = shake_paper(matters, matter[0], news=news)
                        words.append(lets_shaken(matters, matter[0], paper, news=news))
                        self.assertEqual(words[-1] == "shaken", matter[0] in shook)
        self.assertGreater(words.count("firm"), 500)
        self.assertGreater(words.count("shaken"), 5)


class TestBenches(WholeCase):
    def test_papers_of_calls(self):
        words = []
        for going in self.goings(63, 25, 120, True):
            day = going.world.day_now()
            for town in TOWNS:
                call = call_at(going.world.chest_of(town)[0][2], town, HANDS, day=day, seats=3)
                benches, paper = benches_of(call), seat_or_none(call)
                words.append(lets_seating(call, paper))
                self.assertEqual(words[-1], "seat" if benches else "none")
                packing = pack_paper(call)
                self.assertEqual(lets_packing(call, packing), len(packing[0]))
                if benches and not going.world.is_wary(town):
                    self.check_seated(going.world, town, benches)
        self.assertGreater(words.count("seat"), 10)
        self.assertGreater(words.count("none"), 10)

    def check_seated(self, world, town, benches):
        """Each bench can be seated at once, and no others of these hands can."""
        for bench in [tuple(sorted(hands)) for hands in (HANDS[:3], HANDS[1:4], HANDS[2:], HANDS[::2])] + list(benches):
            act = ("open", None, bench)
            if bench in benches:
                world.do_act(town, act)
                world.undo()
            else:
                self.assertEqual(refusal(world.do_act, town, act)[0], "NoRight")

    def test_what_is_brought(self):
        moved = []
        for going in self.goings(72, 30, 120, True):
            going.ask_all()
            world, town = going.world, going.chance.choice(TOWNS)
            told = brought(tells_of(world), town, HANDS, day=world.day_now(), seats=3)
            lying = [pair for pair in pairs_of(HANDS) if where_lies(tells_of(world), pair) is not None]
            if told is None:
                self.assertEqual(benches_of((HANDS, tuple(lying), 3)), ())
                continue
            bench, rows, day = told
            moved.append(len(rows))
            for pair, place, _ in rows:
                world.do_act(place, ("give", pair, town))
                self.assertEqual(world.let_come(len(world.mail()) - 1), "taken")
            call = call_at(world.chest_of(town)[0][2], town, HANDS, day=day, seats=3)
            self.assertIn(bench, benches_of(call))
            self.assertEqual(unfree(call, bench), ())
            world.to_day(day)
            world.do_act(town, ("open", None, bench))
            self.assertIsNone(lacking(world.table_ever(), world.burnings_ever()))
        self.assertGreater(len(moved), 20)
        self.assertGreater(max(moved), 0)


class TestRights(WholeCase):
    def test_written_and_read(self):
        for going in self.goings(23, 20, 120, True):
            for _, rights in tells_of(going.world):
                self.assertEqual(rights_read(rights_text(rights)), rights)


if __name__ == "__main__":
    unittest.main()
