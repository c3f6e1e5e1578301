import random
import unittest

from goings import BUSY, RULE, Going, all_told, do
from samples import refusal
from strangerbench.errors import NoRow
from strangerbench.replaying import replayed
from strangerbench.worlddesk import Desk
from strangerbench.worldreadings import read_log
from strangerbench.worldtexts import deed_line, log_lines, name_word
from strangerbench.worlds import World

WORLD = "world elm,oak 3 2 7"
LOOKS = ("now", "count", "log", "wary", "mail", "matters elm", "truth")
DEEDS = ("day 0", "come 0", "save elm", "rise elm -", "open elm - elm.ann", "seat elm elm.0.0 elm.dan",
         "leave elm elm.0.0 elm.ann", "vote elm elm.0.0 elm.ann yes", "lay elm elm.0.0", "read elm elm.0.0 oak.0.0",
         "note elm elm.0.0 oak", "give elm elm.ann+elm.dan oak", "send elm elm.ann+elm.dan", "ask elm")
NO_ROWS = ("", " ", "  ", "x", "World elm 3 2 7", "Now", "nows", "worlds", "act elm ask", "fall elm", "undo undo",
           "now now", "now 0", " now", "now ", "count 1", "log elm", "wary elm", "mail 0", "truth elm", "matters",
           "matters elm oak", "matters Elm", "matters -", "matters  elm", "lacks", "lacks elm", "lacks elm elm.0.0",
           "lacks elm elm.0.0 - -", "lacks elm - elm.ann", "lacks Elm elm.0.0 -", "lacks elm elm.0 -",
           "lacks elm elm.0.0 oak.bob,elm.ann", "lacks elm elm.0.0 elm.ann,elm.ann", "lacks elm elm.0.0 ann",
           "lacks elm elm.0.0 ", "undo ", " undo", "undo 0", "day", "day -1", "day 00", "day 0 0", "day  0", "day 0 ",
           " day 0", "come", "come -", "come x", "save", "save Elm", "rise elm", "rise elm x", "open elm -",
           "open elm - oak.bob,elm.ann", "vote elm elm.0.0 elm.ann laid", "ask", "give elm elm.dan+elm.ann oak",
           "world", "world elm", "world elm 3 2", "world elm 3 2 0", "world elm 3 2 7 7", "world oak,elm 3 2 7",
           "world elm 3 1 7", "world elm 6 4 7", "world  elm 3 2 7", "world elm 3 2 7 ", "world elm 3 2 7 / day 0",
           "now / now", "day 0\n", "now\n", "world elm 3 2 7\n", "-", "/", "ok", "x" * 4000)


class DeskCase(unittest.TestCase):
    def said(self, desk, rows):
        """What is told of each row; the void text of a refusal is none of them."""
        told = []
        for row in rows:
            told.append(desk.say(row))
            self.assertIs(type(told[-1]), str)
        return told

    def refused(self, desk, row, wanted):
        """What is refused turns nothing, where there is a world already."""
        told = refusal(desk.say, row)
        self.assertEqual(told, wanted)
        self.assertEqual(refusal(desk.say, row=row), wanted)

    def desk(self, rows=()):
        desk = Desk()
        self.said(desk, (WORLD,) + tuple(rows))
        return desk


class TestNoWorld(DeskCase):
    def test_all_else_is_no_row(self):
        desk = Desk()
        for row in LOOKS + DEEDS + NO_ROWS + ("undo", "matters fir", "lacks elm elm.0.0 -", "lacks fir elm.0.0 -"):
            self.refused(desk, row, ("NoRow", row))
        self.assertEqual(desk.say(WORLD), "ok")
        self.assertEqual(desk.say("now"), "0")

    def test_each_desk_has_its_own(self):
        one, other = self.desk(["day 3"]), Desk()
        self.refused(other, "now", ("NoRow", "now"))
        other.say(WORLD)
        self.assertEqual((one.say("now"), other.say("now")), ("3", "0"))


class TestWorlds(DeskCase):
    def test_a_new_one_in_its_stead(self):
        desk = self.desk(["day 3", "save elm"])
        self.assertEqual(desk.say(row="world ash,elm,oak 5 3 9"), "ok")
        self.assertEqual(self.said(desk, ("now", "count", "log")), ["0", "0", "world ash,elm,oak 5 3 9"])
        self.assertEqual(desk.say("matters ash"), "-")
        self.refused(desk, "undo", ("NoStep", 0))

    def test_a_rule_that_is_none_leaves_the_former(self):
        desk = self.desk(["day 3"])
        for row in ("world elm 3 1 7", "world", "world elm 3 2 7 "):
            self.refused(desk, row, ("NoRow", row))
        self.assertEqual(self.said(desk, ("now", "log")), ["3", WORLD + " / day 3"])


class TestNoRow(DeskCase):
    def test_whatever_is_none(self):
        for rows in ((), ("open elm - elm.ann,elm.dan", "rise elm -")):
            desk = self.desk(rows)
            before = desk.say("log")
            for row in NO_ROWS:
                self.refused(desk, row, ("NoRow", row))
            self.assertEqual(desk.say("log"), before)

    def test_the_very_row(self):
        for desk in (Desk(), self.desk()):
            row = " ".join(["now", "and", "then"])
            with self.assertRaises(NoRow) as caught:
                desk.say(row)
            self.assertIs(caught.exception.row, row)
        row = "".join(["n", "ow"])
        with self.assertRaises(NoRow) as caught:
            Desk().say(row)
        self.assertIs(caught.exception.row, row)

    def test_ahead_of_all_else(self):
        # No such town, but it is none of the rows, too.
        desk = self.desk()
        for row in ("save fir fir", "matters fir fir", "lacks fir fir.0.0", "come 99 ", "day 0 x"):
            self.refused(desk, row, ("NoRow", row))


class TestDeeds(DeskCase):
    def test_what_is_told(self):
        desk = self.desk()
        for row, wanted in (
            ("day 0", "ok"), ("open elm - elm.ann,elm.dan", "elm.0.0"), ("vote elm elm.0.0 elm.ann yes", "ok"),
            ("vote elm elm.0.0 elm.dan no", "ok"), ("leave elm elm.0.0 elm.dan", "ok"),
            ("seat elm elm.0.0 elm.dan", "ok"), ("vote elm elm.0.0 elm.dan yes", "yes"),
            ("note elm elm.0.0 oak", "ok"), ("come 0", "news"), ("day 8", "ok"), ("open oak - -", "oak.0.0"),
            ("lay oak oak.0.0", "laid"), ("open oak - oak.bob", "oak.0.1"), ("open elm elm.0.0 elm.ann", "elm.0.1"),
            ("give elm elm.ann+elm.dan oak", "ok"), ("come 1", "taken"), ("come 1", "nothing"),
            ("send elm elm.ann+elm.dan", "ok"), ("open oak - -", "oak.0.2"), ("read oak oak.0.2 elm.0.0", "ok"),
            ("save elm", "1"), ("save elm", "2"), ("rise elm 1", "1"), ("rise elm -", "2"), ("rise elm 0", "3"),
            ("ask elm", "ok"), ("come 3", "told"), ("come 4", "sure"), ("ask elm", None),
        ):
            if wanted is None:
                self.refused(desk, row, ("NoDeed", "sure"))
            else:
                self.assertEqual(desk.say(row), wanted, row)
        self.assertEqual(desk.say("count"), "28")

    def test_refused_as_the_world_does(self):
        desk = self.desk(["day 3", "open elm - elm.ann,elm.dan", "rise oak -"])
        before = self.said(desk, LOOKS)
        for row, wanted in (
            ("day 2", ("NoDeed", "day")), ("come 0", ("NoStep", 0)), ("come -1", ("NoStep", -1)),
            ("save fir", ("NoTown", "fir")), ("rise elm 1", ("NoStep", 1)), ("rise elm -1", ("NoStep", -1)),
            ("rise fir -", ("NoTown", "fir")), ("open oak - -", ("NoDeed", "wary")), ("ask elm", ("NoDeed", "sure")),
            ("ask fir", ("NoTown", "fir")), ("seat elm elm.0.0 elm.ann", ("NoMatter", "there")),
            ("lay elm elm.0.7", ("NoName", ("elm", 0, 7))),
            ("vote elm elm.0.0 oak.bob no", ("NoHand", ("oak", "bob"))), ("note elm elm.0.0 elm", ("NoTown", "elm")),
            ("seat elm elm.0.0 oak.bob", ("NoRight", (("elm", "ann"), ("oak", "bob")), "oak")),
            ("open elm - elm.ann,elm.dan", ("NoRight", (("elm", "ann"), ("elm", "dan")), 10)),
        ):
            self.refused(desk, row, wanted)
        self.assertEqual(self.said(desk, LOOKS), before)

    def test_a_log_line_by_line(self):
        desk = Desk()
        self.assertEqual(len(self.said(desk, log_lines((("world", RULE),) + BUSY))), 1 + len(BUSY))
        self.assertEqual(desk.say("log"), " / ".join(log_lines((("world", RULE),) + BUSY)))


class TestUndo(DeskCase):
    def test_row_by_row(self):
        lines = ["open elm - elm.ann,elm.dan", "day 3", "rise elm 0", "save oak", "ask elm", "come 0", "come 1"]
        desk = self.desk()
        before = []
        for line in lines:
            before.append(self.said(desk, LOOKS))
            desk.say(line)
        for line in reversed(lines):
            self.assertEqual(desk.say("undo"), line)
            self.assertEqual(self.said(desk, LOOKS), before.pop())
        self.refused(desk, "undo", ("NoStep", 0))

    def test_rows_of_none(self):
        desk = self.desk(["open elm - -", "rise elm -"])
        self.assertEqual(self.said(desk, ("undo", "undo")), ["rise elm -", "open elm - -"])


class TestLooks(DeskCase):
    def test_of_a_new_world(self):
        self.assertEqual(self.said(self.desk(), LOOKS), ["0", "0", WORLD, "-", "0", "-", "-"])

    def test_now_count_log_mail(self):
        desk = self.desk(["day 4", "open elm - elm.ann", "give elm elm.ann+elm.dan oak", "day 12"])
        self.assertEqual(self.said(desk, LOOKS[:3]), [
            "12", "4", "world elm,oak 3 2 7 / day 4 / open elm - elm.ann / give elm elm.ann+elm.dan oak / day 12"])
        self.assertEqual(self.said(desk, ("mail", "send elm elm.ann+elm.dan", "mail")), ["1", "ok", "2"])

    def test_wary(self):
        desk = Desk()
        desk.say("world ash,elm,oak 3 2 7")
        wanted = []
        for town in ("oak", "ash", "elm"):
            desk.say(f"rise {town} -")
            wanted = sorted(wanted + [town])
            self.assertEqual(desk.say("wary"), " ".join(wanted))
        desk = Desk()
        self.assertEqual(self.said(desk, ("world elm 3 2 7", "rise elm -", "wary")), ["ok", "1", "-"])

    def test_matters(self):
        desk = self.desk(["open elm - -", "open elm - elm.ann", "open oak - -", "lay elm elm.0.0"])
        self.assertEqual(self.said(desk, ("matters elm", "matters oak")), ["elm.0.0 elm.0.1", "oak.0.0"])
        self.said(desk, ["open elm - -"] * 9)
        self.assertEqual(desk.say("matters elm"), " ".join([f"elm.0.{number}" for number in range(11)]))
        desk.say("rise elm 0")
        self.assertEqual(desk.say("matters elm"), "-")
        for town in ("fir", "ash"):
            self.refused(desk, f"matters {town}", ("NoTown", town))

    def test_lacks(self):
        desk = self.desk(["open elm - elm.ann,elm.dan", "open elm - elm.ann"])
        for row, wanted in (
            ("elm elm.0.0 -", "-"), ("elm elm.0.0 elm.ann,elm.dan", "-"), ("elm elm.0.1 elm.ann", "-"),
            ("elm elm.0.1 -", "-"), ("elm elm.0.1 elm.dan", "elm.ann+elm.dan 7"), ("elm elm.0.1 elm.eve", "-"),
            ("elm elm.0.1 elm.eve,oak.bob", "elm.ann+oak.bob oak"),
            ("elm elm.0.1 elm.dan,oak.bob", "elm.ann+elm.dan 7"),
        ):
            self.assertEqual(desk.say("lacks " + row), wanted, row)
        desk.say("day 7")
        self.assertEqual(desk.say("lacks elm elm.0.1 elm.dan"), "-")
        self.assertEqual(desk.say("count"), "3")
        self.refused(desk, "lacks fir elm.0.0 -", ("NoTown", "fir"))
        self.refused(desk, "lacks elm elm.0.9 -", ("NoName", ("elm", 0, 9)))
        self.refused(desk, "lacks oak elm.0.0 -", ("NoName", ("elm", 0, 0)))
        desk.say("lay elm elm.0.1")
        self.refused(desk, "lacks elm elm.0.1 elm.dan", ("NoMatter", "end"))

    def test_lacks_of_a_wary_town(self):
        # All that was open is broken; that is told, not that it is wary.
        desk = self.desk(["open elm - elm.ann", "rise elm -"])
        self.refused(desk, "lacks elm elm.0.0 elm.dan", ("NoMatter", "end"))
        self.refused(desk, "lacks elm elm.1.0 elm.dan", ("NoName", ("elm", 1, 0)))

    def test_truth(self):
        desk = self.desk(["day 2", "open elm - elm.ann,elm.dan"])
        self.assertEqual(desk.say("truth"), "elm.ann+elm.dan elm.0.0 2")
        self.said(desk, ["seat elm elm.0.0 elm.eve", "day 11", "open elm - elm.dan,elm.eve"])
        wanted = ("elm.ann+elm.dan elm.0.0 2 / elm.ann+elm.eve elm.0.0 2 / elm.dan+elm.eve elm.0.0 2 / "
                  "elm.dan+elm.eve elm.0.1 11")
        self.assertEqual(desk.say("truth"), wanted)
        desk.say("rise elm 0")
        self.assertEqual(desk.say("truth"), wanted)

    def test_what_only_asks_changes_nothing(self):
        desk = self.desk(["open elm - elm.ann", "rise oak -"])
        before = desk.say("log")
        for _ in range(2):
            self.said(desk, LOOKS + ("lacks elm elm.0.0 elm.dan", "matters oak"))
        self.assertEqual(desk.say("log"), before)
        self.assertEqual(desk.say("undo"), "rise oak -")


class TestAnyRows(DeskCase):
    def test_as_the_world_tells(self):
        chance = random.Random(88)
        for _ in range(12):
            going, desk = Going(self, chance), Desk()
            desk.say("world ash,elm,oak 3 2 7")
            for _ in range(80):
                row = going.some_row(True)
                many = len(going.world)
                told = going.do(row)
                if len(going.world) > many:
                    wanted = "ok" if told is None else name_word(told) if type(told) is tuple else str(told)
                    self.assertEqual(desk.say(deed_line(row)), wanted)
                else:
                    self.refused(desk, deed_line(row), told)
            world = going.world
            self.assertEqual(desk.say("log"), str(world))
            self.assertEqual(desk.say("now"), str(world.day_now()))
            self.assertEqual(desk.say("count"), str(len(world)))
            self.assertEqual(desk.say("mail"), str(len(world.mail())))
            self.assertEqual(desk.say("wary"), " ".join([town for town in RULE[0] if world.is_wary(town)]) or "-")
            truth = desk.say("truth")
            self.assertEqual(0 if truth == "-" else len(truth.split(" / ")), len(world.burnings_ever()))
            again = replayed(read_log(desk.say("log").split(" / ")))
            self.assertEqual(all_told(again), all_told(world))
            for row in world.log()[1:][::-1]:
                self.assertEqual(desk.say("undo"), deed_line(row))

    def test_rows_as_deeds(self):
        world, desk = World(RULE), Desk()
        desk.say("world ash,elm,oak 3 2 7")
        for row in BUSY:
            told = do(world, row)
            self.assertEqual(desk.say(deed_line(row)) == "ok", told is None)


if __name__ == "__main__":
    unittest.main()
