import unittest

from goings import A, ALONE, B, BUSY, C, TOWNS, TWO, all_told, do, world_of
from samples import ANN, ANY_THINGS, BOB, CAT, DAN, EVE, RULE, all_tuples, refusal
from strangerbench.chests import first_chest, risen_chest, saved_of
from strangerbench.errors import NoRight, NoStep, NoTown
from strangerbench.letterscome import came
from strangerbench.matterkinds import are_burnings
from strangerbench.townacts import acted
from strangerbench.worldlogs import is_log
from strangerbench.worlds import World

class WorldCase(unittest.TestCase):
    def refused(self, world, act, wanted):
        """What is refused changes nothing."""
        before = all_told(world)
        self.assertEqual(refusal(act), wanted)
        self.assertEqual(all_told(world), before)

    def check_kinds(self, world):
        """Whether all that is told is of just its kind."""
        day, towns, mail, burnings, table, log, many, text, walks = all_told(world)
        self.assertEqual([type(thing) for thing in (day, many, text, walks)], [int, int, str, int])
        for thing in (mail, burnings, table, log):
            self.assertIs(type(thing), tuple)
            self.assertIs(all_tuples(thing), True)
        for _, chest, wary, saved in towns:
            self.assertIs(all_tuples(chest), True)
            self.assertEqual([type(chest), type(wary), type(saved)], [tuple, bool, int])
        self.assertIs(is_log(log), True)
        self.assertIs(are_burnings(burnings), True)
        self.assertEqual(many, len(log) - 1)
        self.assertEqual(table, tuple(sorted(set(table))))


class TestAtFirst(WorldCase):
    def test_at_first(self):
        for rule in (RULE, ALONE, TWO):
            world = World(rule)
            self.assertEqual(world.day_now(), 0)
            for town in rule[0]:
                self.assertEqual(world.chest_of(town), first_chest(rule, town))
                self.assertIs(world.is_wary(town), False)
                self.assertEqual(world.saved_many(town), 1)
            self.assertEqual((world.mail(), world.burnings_ever(), world.table_ever()), ((), (), ()))
            self.assertEqual(world.log(), (("world", rule),))
            self.assertEqual((len(world), world.walks()), (0, 0))
            self.check_kinds(world)
        self.assertEqual(World(rule=RULE), World(RULE))

    def test_texts(self):
        self.assertEqual(str(World(RULE)), "world ash,elm,oak 3 2 7")
        self.assertEqual(str(world_of(BUSY[:1] + (("day", 2), ("rise", "oak", None)))),
                         "world ash,elm,oak 3 2 7 / open elm - elm.ann,elm.dan / day 2 / rise oak -")

    def test_looks_of_no_town(self):
        world = world_of(BUSY)
        for town in ("fir", "el", "elmm", "zzz"):
            for look in (world.chest_of, world.is_wary, world.saved_many):
                self.refused(world, lambda look=look, town=town: look(town), ("NoTown", town))
        for look in (world.chest_of, world.is_wary, world.saved_many):
            self.assertEqual(look(town="elm"), look("elm"))

    def test_what_is_told_is_of_just_its_kind(self):
        self.check_kinds(world_of(BUSY))


class TestDays(WorldCase):
    def test_days(self):
        world = World(RULE)
        for day in (0, 3, 3, 9999):
            self.assertIsNone(world.to_day(day))
            self.assertEqual(world.day_now(), day)
        self.assertIsNone(world.to_day(day=10 ** 5))
        self.assertEqual(world.log()[1:], (("day", 0), ("day", 3), ("day", 3), ("day", 9999), ("day", 10 ** 5)))

    def test_a_day_gone_by(self):
        world = World(RULE)
        world.to_day(5)
        for day in (4, 0, 1):
            self.refused(world, lambda day=day: world.to_day(day), ("NoDeed", "day"))
        self.assertEqual(len(world), 1)


class TestActs(WorldCase):
    def test_each_tells_what_the_town_does(self):
        world = World(RULE)
        rows = (
            ("open", None, (ANN, DAN)), ("vote", A, ANN, "yes"), ("vote", A, DAN, "no"), ("vote", A, DAN, "yes"),
            ("note", A, "oak"), ("open", A, ()), ("seat", B, ANN), ("leave", B, ANN), ("lay", B),
            ("give", (ANN, DAN), "oak"), ("send", (ANN, DAN)), ("open", None, ()),
        )
        told, letters = [], ()
        for at, act in enumerate(rows):
            world.to_day(at)
            behind, wanted, sent = acted(RULE, world.chest_of("elm"), act, day=at)
            told.append(world.do_act("elm", act) if at else world.do_act(town="elm", act=act))
            letters += sent
            self.assertEqual(told[-1], wanted)
            self.assertEqual(world.chest_of("elm"), behind)
            self.assertEqual(world.mail(), letters)
            self.assertEqual(world.log()[-1], ("act", "elm", act))
        self.assertEqual(told, [A, None, None, "yes", None, B, None, None, "laid", None, None, C])
        self.assertEqual([letter[0] for letter in letters], ["note", "give", "give"])
        self.assertEqual(world.chest_of("oak"), first_chest(RULE, "oak"))
        self.check_kinds(world)

    def test_the_day_counts(self):
        world = world_of(BUSY[:1])
        seat = ("open", None, (ANN, DAN))
        for day in range(1, 7):
            world.to_day(day)
            self.refused(world, lambda: world.do_act("elm", seat), ("NoRight", (ANN, DAN), 7))
        world.to_day(7)
        self.assertEqual(world.do_act("elm", seat), B)
        self.assertEqual(world.burnings_ever(), (((ANN, DAN), A, 0), ((ANN, DAN), B, 7)))

    def test_refused(self):
        world = world_of(BUSY[:3])
        for act, wanted in (
            (("vote", A, ANN, "no"), ("NoMatter", "end")),
            (("seat", B, ANN), ("NoName", B)),
            (("read", A, ("oak", 0, 0)), ("NoName", ("oak", 0, 0))),
            (("give", (ANN, BOB), "oak"), ("NoRight", (ANN, BOB), "oak")),
            (("give", (ANN, DAN), "elm"), ("NoTown", "elm")),
            (("note", A, "fir"), ("NoTown", "fir")),
            (("open", B, ()), ("NoMatter", "lower")),
            (("ask",), ("NoDeed", "sure")),
        ):
            self.refused(world, lambda act=act: world.do_act("elm", act), wanted)

    def test_a_wary_town(self):
        world = world_of(BUSY)
        self.assertIs(world.is_wary("elm"), True)
        self.refused(world, lambda: world.do_act("elm", ("open", None, ())), ("NoDeed", "wary"))
        self.assertIsNone(world.do_act("elm", ("ask",)))
        self.assertEqual([letter[:3] for letter in world.mail()[-2:]], [("ask", "elm", "ash"), ("ask", "elm", "oak")])

    def test_no_town(self):
        world = world_of(BUSY)
        for act in (("ask",), ("open", None, ()), ("note", A, "fir")):
            self.refused(world, lambda act=act: world.do_act("fir", act), ("NoTown", "fir"))


class TestLetters(WorldCase):
    def test_they_come_and_stay(self):
        world = world_of(BUSY[:6])
        mail = world.mail()
        self.assertEqual([letter[:3] for letter in mail], [("note", "elm", "oak"), ("give", "oak", "elm")])
        before = world.chest_of("elm")
        behind, word, _ = came(RULE, before, mail[1])
        self.assertEqual((word, world.let_come(1)), ("taken", "taken"))
        self.assertEqual(world.chest_of("elm"), behind)
        self.assertEqual(world.let_come(n=1), "nothing")
        self.assertEqual([world.let_come(0), world.let_come(0)], ["news", "news"])
        self.assertEqual(world.chest_of("oak")[3], (mail[0][3], mail[0][3]))
        self.assertEqual(world.mail(), mail)
        self.assertEqual(world.log()[-4:], (("come", 1), ("come", 1), ("come", 0), ("come", 0)))

    def test_what_they_send_goes_behind_the_mail(self):
        world = World(RULE)
        self.assertEqual(world.fall("elm"), 1)
        world.do_act("elm", ("ask",))
        self.assertEqual([world.let_come(n) for n in (1, 0, 1)], ["told"] * 3)
        self.assertEqual([letter[:3] for letter in world.mail()],
                         [("ask", "elm", "ash"), ("ask", "elm", "oak"), ("tell", "oak", "elm"), ("tell", "ash", "elm"),
                          ("tell", "oak", "elm")])
        self.assertEqual([world.let_come(n) for n in (2, 4, 3, 3)], ["counts", "twice", "sure", "nothing"])
        self.assertIs(world.is_wary("elm"), False)
        self.assertEqual(len(world.mail()), 5)

    def test_late(self):
        world = World(TWO)
        world.fall("elm")
        world.do_act("elm", ("ask",))
        world.let_come(0)
        world.fall("elm")
        self.assertEqual(world.let_come(1), "late")

    def test_no_letter_of_that_number(self):
        for rows, many in (((), 0), (BUSY[:5], 2)):
            world = world_of(rows)
            self.assertEqual(len(world.mail()), many)
            for n in (-1, -2, -many, many, many + 1, 10 ** 59, -(10 ** 59)):
                if n != 0 or many == 0:
                    self.refused(world, lambda n=n: world.let_come(n), ("NoStep", n))


class TestSaving(WorldCase):
    def test_numbers(self):
        world = World(RULE)
        self.assertEqual([world.save_town("elm"), world.save_town(town="elm"), world.save_town("oak")], [1, 2, 1])
        self.assertEqual([world.saved_many(town) for town in TOWNS], [1, 3, 2])
        self.assertEqual(world.log()[1:], (("save", "elm"), ("save", "elm"), ("save", "oak")))
        self.refused(world, lambda: world.save_town("fir"), ("NoTown", "fir"))

    def test_a_wary_town(self):
        world = world_of(BUSY)
        self.assertEqual(world.save_town("elm"), 2)
        self.assertEqual(world.fall("elm", 2), 2)


class TestFalls(WorldCase):
    def test_with_what_it_has(self):
        world = world_of(BUSY[:-1])
        for rise in (1, 2, 3):
            before = world.chest_of("elm")
            self.assertEqual(world.fall("elm"), rise)
            self.assertEqual(world.chest_of("elm"), risen_chest(RULE, saved_of(before), rise=rise, day=3))
            self.assertEqual(world.log()[-1], ("rise", "elm", None))
        self.assertEqual(world.chest_of("oak")[0][1], 0)

    def test_with_saved_ones(self):
        world = world_of(BUSY[:-1])
        saved = saved_of(world_of(BUSY[:8]).chest_of("elm"))
        world.to_day(5)
        for rise, n in ((1, 1), (2, 0), (3, 1)):
            wanted = risen_chest(RULE, saved if n else saved_of(first_chest(RULE, "elm")), rise=rise, day=5)
            self.assertEqual(world.fall("elm", n) if n else world.fall(town="elm", n=n), rise)
            self.assertEqual(world.chest_of("elm"), wanted)
            self.assertEqual(world.log()[-1], ("rise", "elm", n))
        self.assertEqual(world.fall("elm"), 4)
        self.assertEqual(world.saved_many("elm"), 2)

    def test_a_rise_that_the_book_forgot(self):
        # The rise is told by the stone, however elder the book is.
        world = World(ALONE)
        self.assertEqual([world.fall("elm"), world.save_town("elm"), world.fall("elm"), world.fall("elm", 0)],
                         [1, 1, 2, 3])
        self.assertEqual(world.fall("elm", 1), 4)
        self.assertEqual(world.chest_of("elm")[1], (("elm", 4, 0),))
        self.assertEqual(world.do_act("elm", ("open", None, ())), ("elm", 4, 0))

    def test_alone_it_is_sure_at_once(self):
        world = World(ALONE)
        world.fall("elm")
        self.assertIs(world.is_wary("elm"), False)
        world = World(TWO)
        world.fall("elm")
        self.assertIs(world.is_wary("elm"), True)
        self.assertIs(world.is_wary("oak"), False)

    def test_no_saved_one(self):
        world = world_of(BUSY)
        for town, n in (("elm", 2), ("elm", -1), ("elm", -2), ("oak", 1), ("ash", 10 ** 59), ("ash", -(10 ** 59))):
            self.refused(world, lambda town=town, n=n: world.fall(town, n), ("NoStep", n))
        for n in (None, 0, 9, -1):
            self.refused(world, lambda n=n: world.fall("fir", n), ("NoTown", "fir"))


class TestTruth(WorldCase):
    def test_as_it_grows(self):
        world = World(RULE)
        world.do_act("elm", ("open", None, (ANN,)))
        self.assertEqual((world.burnings_ever(), world.table_ever()), ((), ((A, (ANN,)),)))
        world.to_day(2)
        world.do_act("elm", ("seat", A, DAN))
        self.assertEqual(world.burnings_ever(), (((ANN, DAN), A, 2),))
        self.assertEqual(world.table_ever(), ((A, (ANN, DAN)),))
        world.do_act("elm", ("leave", A, DAN))
        self.assertEqual(world.table_ever(), ((A, (ANN, DAN)),))

    def test_like_pairs_once(self):
        world = world_of(BUSY[:3])
        world.do_act("elm", ("open", A, ()))
        world.do_act("elm", ("open", A, (ANN,)))
        self.assertEqual(world.table_ever(), ((A, (ANN, DAN)),))
        world.to_day(7)
        world.do_act("ash", ("open", None, (EVE,)))
        world.do_act("elm", ("open", None, (ANN, DAN)))
        self.assertEqual(world.table_ever(), ((("ash", 0, 0), (EVE,)), (A, (ANN, DAN)), (("elm", 0, 3), (ANN, DAN))))

    def test_of_each_name_the_most_voices_alone(self):
        # Two matters of one path: the lower one has fewer voices, and is a row of its own.
        world = world_of(BUSY[:3] + (("act", "oak", ("give", (ANN, BOB), "elm")), ("come", 0),
                                     ("act", "oak", ("give", (DAN, BOB), "elm")), ("come", 1)))
        world.do_act("elm", ("open", A, ()))
        world.do_act("elm", ("seat", B, BOB))
        self.assertEqual(world.table_ever(), ((A, (ANN, DAN)), (A, (ANN, DAN, BOB))))

    def test_what_a_fall_forgot(self):
        world = World(ALONE)
        world.do_act("elm", ("open", None, (ANN,)))
        world.save_town("elm")
        world.do_act("elm", ("seat", A, DAN))
        world.to_day(8)
        world.do_act("elm", ("open", None, (ANN, DAN)))
        burnings = (((ANN, DAN), A, 0), ((ANN, DAN), B, 8))
        table = ((A, (ANN, DAN)), (B, (ANN, DAN)))
        for n in (1, 0):
            world.fall("elm", n)
            self.assertEqual((world.burnings_ever(), world.table_ever()), (burnings, table))
            self.assertEqual(world.chest_of("elm")[0][4], ())
        # What is opened now goes by another name.
        world.to_day(20)
        name = world.do_act("elm", ("open", None, (ANN, DAN)))
        self.assertEqual(name, ("elm", 2, 0))
        self.assertEqual(world.burnings_ever(), burnings + (((ANN, DAN), name, 20),))
        self.assertEqual(world.table_ever(), table + ((name, (ANN, DAN)),))

    def test_an_appeal_of_what_was_saved(self):
        world = world_of(BUSY[:3], ALONE)
        world.save_town("elm")
        world.fall("elm", 1)
        self.assertEqual(world.do_act("elm", ("open", A, (DAN,))), ("elm", 1, 0))
        self.assertEqual(world.table_ever(), ((A, (ANN, DAN)),))
        self.assertEqual(world.burnings_ever(), (((ANN, DAN), A, 0),))


class TestLog(WorldCase):
    def test_each_deed(self):
        world = world_of(BUSY)
        self.assertEqual(world.log(), (("world", RULE),) + BUSY)
        self.assertEqual(len(world), len(BUSY))
        self.assertEqual(len(str(world).split(" / ")), 1 + len(BUSY))

    def test_no_look_is_noted(self):
        world = world_of(BUSY)
        before = all_told(world)
        self.assertEqual(all_told(world), before)
        self.assertEqual(world.log(), before[5])


class TestEqual(WorldCase):
    def check(self, one, other, told):
        for left, right in ((one, other), (other, one)):
            self.assertIs(left == right, told)
            self.assertIs(left != right, not told)

    def test_worlds(self):
        worlds = [World(RULE), World(TWO), World((TOWNS, 3, 2, 8)), world_of((("day", 0),)), world_of((("day", 1),)),
                  world_of(BUSY), world_of(BUSY[:-1]), world_of(BUSY[:-1] + (("rise", "elm", None),))]
        for at, one in enumerate(worlds):
            for place, other in enumerate(worlds):
                self.check(one, other, at == place)
        self.check(world_of(BUSY), world_of(BUSY), True)

    def test_by_the_log_alone(self):
        # Both days are the same, but one of them was told twice.
        self.check(world_of((("day", 2), ("day", 2))), world_of((("day", 2),)), False)
        world = world_of(BUSY)
        world.undo()
        self.check(world, world_of(BUSY[:-1]), True)
        world = world_of(BUSY)
        refusal(world.to_day, 0)
        self.check(world, world_of(BUSY), True)

    def test_any_things(self):
        for world in (World(RULE), world_of(BUSY)):
            for thing in ANY_THINGS + [world.log(), list(world.log()), str(world), len(world), RULE]:
                self.check(world, thing, False)


class TestUndo(WorldCase):
    def test_row_by_row(self):
        # Each kind of deed is among these, and with it all the truth is as it was.
        world, told = World(RULE), []
        for row in BUSY + (("act", "elm", ("ask",)), ("come", 2), ("come", 3), ("come", 4), ("come", 5)):
            told.append((all_told(world), row))
            do(world, row)
        self.assertIs(world.is_wary("elm"), False)
        for before, row in reversed(told):
            self.assertEqual(world.undo(), row)
            self.assertEqual(all_told(world), before)
        self.refused(world, world.undo, ("NoStep", 0))
        self.assertEqual(world, World(RULE))

    def test_going_on_behind_it(self):
        world = world_of(BUSY)
        for _ in range(4):
            world.undo()
        for row in BUSY[-4:]:
            do(world, row)
        self.assertEqual(all_told(world), all_told(world_of(BUSY)))

    def test_of_none(self):
        self.refused(World(RULE), World(RULE).undo, ("NoStep", 0))
        with self.assertRaises(NoStep):
            World(RULE).undo()

    def test_the_truth_that_was_lost(self):
        world = world_of((("act", "elm", ("open", None, (ANN,))), ("act", "elm", ("seat", A, DAN))), ALONE)
        world.fall("elm", 0)
        world.undo()
        world.undo()
        self.assertEqual((world.burnings_ever(), world.table_ever()), ((), ((A, (ANN,)),)))
        world.undo()
        self.assertEqual((world.burnings_ever(), world.table_ever()), ((), ()))


class TestDoAll(WorldCase):
    def test_a_list_and_a_tuple(self):
        for rows in (BUSY, list(BUSY)):
            for keep in (True, False):
                before = repr(rows)
                world = World(RULE)
                self.assertEqual(world.do_all(rows, keep=keep), len(BUSY))
                self.assertEqual(all_told(world), all_told(world_of(BUSY)))
                self.assertEqual(repr(rows), before)
        world = World(RULE)
        self.assertEqual(world.do_all(rows=BUSY[:5]), 5)
        self.assertEqual(world.do_all(BUSY[5:]), len(BUSY) - 5)
        self.assertEqual(all_told(world), all_told(world_of(BUSY)))

    def test_the_rows_are_kept_as_a_copy(self):
        rows = list(BUSY[:3])
        world = World(RULE)
        world.do_all(rows)
        rows.clear()
        self.assertEqual(world.log()[1:], BUSY[:3])

    def test_none(self):
        for rows in ((), []):
            for keep in (True, False):
                world = world_of(BUSY)
                self.assertEqual(world.do_all(rows, keep=keep), 0)
                self.assertEqual(all_told(world), all_told(world_of(BUSY)))

    def test_one_refused_first_amid_last(self):
        wrongs = ((("day", 0), ("NoDeed", "day")), (("come", 9), ("NoStep", 9)), (("save", "fir"), ("NoTown", "fir")),
                  (("rise", "elm", 7), ("NoStep", 7)), (("act", "elm", ("lay", C)), ("NoName", C)))
        for wrong, wanted in wrongs:
            for at in range(len(BUSY) + 1):
                rows = BUSY[:at] + (wrong,) + BUSY[at:]
                world = world_of((("day", 1),))
                self.refused(world, lambda rows=rows, world=world: world.do_all(rows), wanted)
                self.refused(world, lambda rows=rows, world=world: world.do_all(list(rows), keep=False), wanted)
                self.assertEqual(refusal(world.do_all, rows, keep=True), wanted)
                self.assertEqual(all_told(world), all_told(world_of((("day", 1),) + BUSY[:at])))
                # It goes on as ever.
                self.assertEqual(world.do_all(BUSY[at:]), len(BUSY) - at)

    def test_each_row_is_undone_by_itself(self):
        world = World(RULE)
        world.do_all(BUSY)
        self.assertEqual(world.undo(), BUSY[-1])
        self.assertEqual(all_told(world), all_told(world_of(BUSY[:-1])))
        for keep in (True, False):
            world = world_of(BUSY[:3])
            world.do_all(BUSY[3:6], keep=keep)
            world.do_all(list(BUSY[6:]), keep=keep)
            for many in range(len(BUSY) - 1, -1, -1):
                self.assertEqual(world.undo(), BUSY[many])
                self.assertEqual(all_told(world), all_told(world_of(BUSY[:many])))

    def test_rows_of_another_world(self):
        one, other = world_of(BUSY), World(RULE)
        other.do_all(one.log()[1:])
        self.assertEqual(one, other)
        one.undo()
        self.assertEqual(len(other), len(BUSY))

    def test_keep_goes_by_name_alone(self):
        with self.assertRaises(TypeError):
            World(RULE).do_all((), True)

    def test_no_going_goes_on(self):
        world = World(RULE)
        self.assertEqual(world.walks(), 0)
        refusal(world.do_all, BUSY + (("day", 0),))
        world.do_all(BUSY)
        self.assertEqual(world.walks(), 0)


class TestRefusals(WorldCase):
    def test_the_very_things(self):
        world = world_of(BUSY[:3])
        town, n = "".join(["f", "ir"]), 10 ** 40 + 1
        with self.assertRaises(NoTown) as caught:
            world.fall(town, 0)
        self.assertIs(caught.exception.name, town)
        with self.assertRaises(NoStep) as caught:
            world.fall("elm", n)
        self.assertIs(caught.exception.number, n)
        with self.assertRaises(NoRight) as caught:
            world.do_act("elm", ("open", None, (ANN, BOB)))
        self.assertEqual((caught.exception.pair, caught.exception.why), ((ANN, BOB), "oak"))


class TestSending(WorldCase):
    def test_a_bench_of_three_towns(self):
        # It sits once the rights of its pairs came.
        world = World(RULE)
        rows = [("act", "oak", ("give", pair, "elm")) for pair in ((EVE, BOB), (ANN, BOB))]
        world.do_all(rows + [("come", 0), ("come", 1)])
        self.assertEqual(world.do_act("elm", ("open", None, (EVE, ANN, BOB))), A)
        self.assertEqual(len(world.burnings_ever()), 3)
        self.assertEqual(world.chest_of("elm")[0][3][0][2], (EVE, ANN, BOB))
        self.refused(world, lambda: world.do_act("elm", ("seat", A, CAT)), ("NoMatter", "full"))


if __name__ == "__main__":
    unittest.main()
