import unittest

from samples import ANN, ANY_THINGS, BOB, CAT, RULE, check_look, with_part
from strangerbench.worldlogs import is_log

A = ("elm", 0, 0)
PAIR = (ANN, BOB)
WORLD = ("world", RULE)
ACTS = (
    ("open", None, (ANN, BOB)), ("open", A, ()), ("seat", A, ANN), ("leave", A, ANN), ("vote", A, ANN, "yes"),
    ("vote", A, ANN, "no"), ("lay", A), ("read", A, ("oak", 7, 9)), ("note", A, "oak"), ("give", PAIR, "oak"),
    ("send", PAIR), ("ask",),
)
ROWS = tuple([("act", "elm", act) for act in ACTS]) + (
    ("day", 0), ("day", 9999), ("come", 0), ("come", -3), ("save", "elm"), ("rise", "elm", None), ("rise", "elm", 0),
    ("rise", "elm", -1),
)
NO_WORDS = (None, 0, True, "", "Elm", "abcdefghi", "elm1", ("elm",), ["elm"], ANN)
NO_COUNTS = (None, -1, True, False, "0", (0,), [0], ())


def turned(thing):
    """The thing with one place otherwise, at any depth, by which it is of no kind any more."""
    if type(thing) is not tuple:
        return {int: (True, False, None, "0", (0,)), str: ("Elm!", 0, None, True), type(None): (True, 0, "")}[type(thing)]
    others = [list(thing), thing + (None,), thing[:-1] + (None, None)]
    for at, part in enumerate(thing):
        others.extend([with_part(thing, at, other) for other in turned(part)])
    return others


class LogCase(unittest.TestCase):
    def is_row(self, row, told):
        """Whether it may stand behind others, and ahead of others."""
        for log in ((WORLD, row), (WORLD, ROWS[0], row), (WORLD, row, ROWS[0])):
            check_look(self, is_log, log, told)


class TestLogs(LogCase):
    def test_logs(self):
        check_look(self, is_log, (WORLD,), True)
        check_look(self, is_log, (WORLD,) + ROWS, True)
        check_look(self, is_log, (WORLD,) + ROWS * 30, True)

    def test_any_things(self):
        for thing in ANY_THINGS:
            check_look(self, is_log, thing, False)
            self.is_row(thing, False)
            check_look(self, is_log, (thing,), False)
            check_look(self, is_log, ("world", thing), False)
            check_look(self, is_log, (("world", thing),), False)

    def test_shapes(self):
        for thing in ([WORLD], list((WORLD,) + ROWS), WORLD, (), ROWS, (ROWS[0], WORLD), (WORLD, ROWS), ((WORLD,),),
                      (list(WORLD),), (WORLD, WORLD), (("world",),), (WORLD + (None,),), (("World", RULE),), (RULE,),
                      ((("world",), RULE),), ((None, RULE),)):
            check_look(self, is_log, thing, False)


class TestRules(LogCase):
    def check_rules(self, rules, told):
        for rule in rules:
            check_look(self, is_log, (("world", rule),), told)
            check_look(self, is_log, (("world", rule),) + ROWS, told)

    def test_towns(self):
        good = (("elm",), ("elm", "oak"), ("a", "abcdefgh", "b", "c", "d", "e"))
        self.check_rules([with_part(RULE, 0, towns) for towns in good], True)
        bad = ((), ["elm"], "elm", ("oak", "elm"), ("elm", "elm"), (None,), ("elm", None), ("Elm",), ("",), (0, 1),
               None, ("elm", "abcdefghi"), (("elm",),), (True,))
        self.check_rules([with_part(RULE, 0, towns) for towns in bad], False)

    def test_seats_and_needed(self):
        good = {(2, 2), (3, 2), (3, 3), (4, 3), (4, 4), (5, 3), (5, 4), (5, 5)}
        for seats in range(-1, 8):
            for needed in range(-1, 8):
                self.check_rules([(("elm",), seats, needed, 1)], (seats, needed) in good)
        self.check_rules([with_part(RULE, at, thing) for at in (1, 2) for thing in NO_COUNTS], False)
        self.check_rules([(("elm",), 10 ** 59, 10 ** 59, 1)], False)

    def test_span(self):
        self.check_rules([with_part(RULE, 3, span) for span in (1, 2, 99, 100, 10 ** 59)], True)
        self.check_rules([with_part(RULE, 3, span) for span in (0,) + NO_COUNTS], False)

    def test_shapes(self):
        self.check_rules([RULE[:3], RULE + (1,), list(RULE), (RULE,), None, "elm", (None,) * 4], False)


class TestRows(LogCase):
    def test_each_row(self):
        for row in ROWS:
            self.is_row(row, True)
            for other in (list(row), row[:-1], row + (None,), row + (0,), (row,), row[1:], row + row):
                self.is_row(other, False)
            for word in ("", "Day", "world", "fall", "undo", None, 0, (), ["day"], ("day",)):
                self.is_row((word,) + row[1:], False)

    def test_one_place_otherwise(self):
        # A lower one, or a saved one, may be None, and a saved one a number.
        still = [repr(row) for row in (("rise", "elm", None), ("rise", "elm", 0), ("act", "elm", ("open", None, ())))]
        for row in ROWS:
            for other in turned(row):
                if repr(other) not in still:
                    self.is_row(other, False)
        for other in turned(WORLD):
            check_look(self, is_log, (other,), False)

    def test_days(self):
        self.is_row(("day", 10 ** 60), True)
        for thing in NO_COUNTS:
            self.is_row(("day", thing), False)

    def test_numbers_of_letters(self):
        for n in (0, 7, -1, 10 ** 59, -(10 ** 59)):
            self.is_row(("come", n), True)
        for thing in (None, True, False, "0", (0,), [0], ()):
            self.is_row(("come", thing), False)

    def test_saved_ones(self):
        for n in (0, 7, -1, 10 ** 59, None):
            self.is_row(("rise", "fir", n), True)
        for thing in (True, False, "0", "", (0,), [0], (), "elm"):
            self.is_row(("rise", "elm", thing), False)

    def test_towns(self):
        for row in (("save", "elm"), ("rise", "elm", 0), ("act", "elm", ("ask",))):
            for town in ("fir", "a", "abcdefgh"):
                self.is_row(with_part(row, 1, town), True)
            for thing in NO_WORDS:
                self.is_row(with_part(row, 1, thing), False)

    def test_acts(self):
        for act in ACTS:
            # An act is none of the rows, and no other row is an act.
            self.is_row(act, False)
            self.is_row(("elm",) + act, False)
            self.is_row(("act",) + act, False)
            self.is_row(("act", "elm") + act, False)
            self.is_row(("act", "elm", list(act)), False)
            for at in range(1, len(act)):
                for thing in (True, -1, [], "Elm", (None,), (CAT, ANN, BOB), ((), ())):
                    self.is_row(("act", "elm", with_part(act, at, thing)), False)
        for row in ROWS[len(ACTS):]:
            self.is_row(("act", "elm", row), False)
        for thing in ANY_THINGS:
            self.is_row(("act", "elm", thing), False)
        self.is_row(("act", "elm", ("seat", ("elm", 0, -1), ANN)), False)
        self.is_row(("act", "elm", ("seat", ("elm", True, 0), ANN)), False)


if __name__ == "__main__":
    unittest.main()
