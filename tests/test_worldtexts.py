import unittest

from samples import ANN, BOB, CAT, DAN, EVE, RULE
from strangerbench.worldtexts import deed_line, log_lines

A, BIG = ("elm", 0, 0), 10 ** 60 - 1
NINES = "9" * 60
# Each row with the line that writes it.
ROWS = (
    (("day", 0), "day 0"),
    (("day", 9999), "day 9999"),
    (("day", BIG), f"day {NINES}"),
    (("act", "elm", ("open", None, (ANN, BOB))), "open elm - elm.ann,oak.bob"),
    (("act", "elm", ("open", None, ())), "open elm - -"),
    (("act", "elm", ("open", A, (ANN,))), "open elm elm.0.0 elm.ann"),
    (("act", "fir", ("open", ("oak", 12, 305), (EVE, ANN, DAN, BOB, CAT))),
     "open fir oak.12.305 ash.eve,elm.ann,elm.dan,oak.bob,oak.cat"),
    (("act", "elm", ("seat", A, BOB)), "seat elm elm.0.0 oak.bob"),
    (("act", "elm", ("seat", ("elm", BIG, 10 ** 59), BOB)), f"seat elm elm.{NINES}.1{'0' * 59} oak.bob"),
    (("act", "elm", ("leave", ("elm", 1, 20), ANN)), "leave elm elm.1.20 elm.ann"),
    (("act", "elm", ("vote", A, ANN, "yes")), "vote elm elm.0.0 elm.ann yes"),
    (("act", "elm", ("vote", A, ANN, "no")), "vote elm elm.0.0 elm.ann no"),
    (("act", "elm", ("lay", A)), "lay elm elm.0.0"),
    (("act", "elm", ("read", A, ("oak", 2, 7))), "read elm elm.0.0 oak.2.7"),
    (("act", "elm", ("note", A, "oak")), "note elm elm.0.0 oak"),
    (("act", "elm", ("give", (ANN, BOB), "oak")), "give elm elm.ann+oak.bob oak"),
    (("act", "elm", ("send", (EVE, ANN))), "send elm ash.eve+elm.ann"),
    (("act", "elm", ("ask",)), "ask elm"),
    (("come", 0), "come 0"),
    (("come", 17), "come 17"),
    (("come", -1), "come -1"),
    (("come", -BIG), f"come -{NINES}"),
    (("save", "elm"), "save elm"),
    (("rise", "elm", None), "rise elm -"),
    (("rise", "elm", 0), "rise elm 0"),
    (("rise", "abcdefgh", -20), "rise abcdefgh -20"),
)


class TestDeedLine(unittest.TestCase):
    def test_each_row(self):
        for row, line in ROWS:
            before = repr(row)
            told = deed_line(row)
            self.assertEqual(told, line)
            self.assertIs(type(told), str)
            self.assertEqual(deed_line(row=row), line)
            self.assertEqual(repr(row), before)


class TestLogLines(unittest.TestCase):
    def test_the_rule_alone(self):
        for rule, line in ((RULE, "world ash,elm,oak 3 2 7"), ((("elm", "oak"), 3, 2, 7), "world elm,oak 3 2 7"),
                           ((("a",), 5, 4, 99), "world a 5 4 99")):
            told = log_lines((("world", rule),))
            self.assertEqual(told, [line])
            self.assertIs(type(told), list)
            self.assertEqual(log_lines(log=(("world", rule),)), told)

    def test_row_by_row(self):
        log = (("world", RULE),) + tuple([row for row, _ in ROWS])
        before = repr(log)
        told = log_lines(log)
        self.assertEqual(told, ["world ash,elm,oak 3 2 7"] + [line for _, line in ROWS])
        self.assertEqual([type(line) for line in told], [str] * len(told))
        self.assertEqual(repr(log), before)
        # It is the asker's own.
        told.clear()
        self.assertEqual(len(log_lines(log)), 1 + len(ROWS))


if __name__ == "__main__":
    unittest.main()
