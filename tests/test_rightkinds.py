import copy
import unittest

from samples import ANN, ANY_THINGS, BOB, CAT, DAN, EVE, with_part
from strangerbench.rightkinds import is_hand, is_heard, is_pair, is_rights, is_row, is_word

LOOKS = (is_word, is_hand, is_pair, is_row, is_rights, is_heard)
ROW = ((ANN, BOB), (0, 1), "elm", "oak", 0, 12, True)
LATER = ((ANN, CAT), (0, 0), "oak", "oak", 0, 0, False)


class TestRightKinds(unittest.TestCase):
    def check(self, look, thing, told):
        before = copy.deepcopy(thing)
        self.assertIs(look(thing), told, thing)
        self.assertIs(look(thing=thing), told, thing)
        self.assertEqual(thing, before)

    def test_any_things_are_none_of_these(self):
        for look in LOOKS:
            for thing in ANY_THINGS:
                self.check(look, thing, False)

    def test_words(self):
        for thing in ("a", "z", "elm", "abcdefgh", "zzzzzzzz"):
            self.check(is_word, thing, True)
        for thing in ("", "abcdefghi", "aB", "Z", "a1", "a_", "a.b", "a b", "a`", "{", "a\n", ["a"], ("a",), ["a", "b"]):
            self.check(is_word, thing, False)

    def test_hands(self):
        for thing in (ANN, ("a", "a"), ("abcdefgh", "abcdefgh")):
            self.check(is_hand, thing, True)
        for thing in (["elm", "ann"], ("elm", ""), ("", "ann"), ("elm", "abcdefghi"), ("abcdefghi", "ann"), "ab",
                      ("elm", "ann", "x"), ("elm",), (ANN, BOB), ("elm", ["ann"]), ("elm", 0), (True, "ann")):
            self.check(is_hand, thing, False)

    def test_pairs(self):
        for thing in ((ANN, BOB), (ANN, DAN), (EVE, CAT), (("a", "b"), ("b", "a"))):
            self.check(is_pair, thing, True)
        for thing in ((BOB, ANN), (ANN, ANN), [ANN, BOB], (list(ANN), BOB), (ANN, list(BOB)), (ANN,), (ANN, BOB, CAT),
                      (ANN, "oak"), ("elm", BOB), ANN, (ANN, ("oak", "Bob"))):
            self.check(is_pair, thing, False)

    def test_rows(self):
        for thing in (ROW, LATER, with_part(ROW, 1, (10 ** 70, 10 ** 70)), with_part(ROW, 2, "nowhere")):
            self.check(is_row, thing, True)
        wrong = [
            (0, ((BOB, ANN), [ANN, BOB], None)),
            (1, ([0, 1], (0,), (0, 1, 2), (True, 1), (0, False), (-1, 0), (0, -1), (0, None), 0)),
            (2, ("Elm", "", None, 0, ANN, ["elm"])),
            (3, ("Elm", "", None, 0, ANN, ("oak",))),
            (4, (-1, True, False, None, "0", (0,))),
            (5, (-1, True, False, None, "0", (0,))),
            (6, (0, 1, None, "here", (), (True,))),
        ]
        for at, parts in wrong:
            for part in parts:
                self.check(is_row, with_part(ROW, at, part), False)
        for thing in (list(ROW), ROW[:6], ROW + (True,), (ROW,)):
            self.check(is_row, thing, False)

    def test_rights(self):
        for thing in ((0, 0, ()), (3, 12, (ROW,)), (10 ** 80, 0, (ROW, LATER))):
            self.check(is_rights, thing, True)
        wrong = [
            [0, 0, ()], (0, 0), (0, 0, (), ()), (True, 0, ()), (0, False, ()), (-1, 0, ()), (0, -1, ()), (None, 0, ()),
            (0, 0, []), (0, 0, None), (0, 0, [ROW]), (0, 0, (list(ROW),)), (0, 0, ROW),
            (0, 0, (LATER, ROW)), (0, 0, (ROW, ROW)), (0, 0, (ROW, LATER, LATER)),
            (0, 0, (ROW, with_part(ROW, 5, 13))), (0, 0, (with_part(ROW, 6, False), ROW)),
            (0, 0, (ROW, with_part(LATER, 5, True))), (0, 0, (ROW, None)),
        ]
        for thing in wrong:
            self.check(is_rights, thing, False)

    def test_heard(self):
        for thing in ((("elm", 0, 0),), (("elm", 3, 9), ("oak", 0, 0)), (("a", 10 ** 70, 10 ** 70),)):
            self.check(is_heard, thing, True)
        wrong = [
            (), [], [("elm", 0, 0)], (["elm", 0, 0],), (("elm", 0),), (("elm", 0, 0, 0),), ("elm", 0, 0),
            (("elm", True, 0),), (("elm", 0, False),), (("elm", -1, 0),), (("elm", 0, -1),), (("Elm", 0, 0),),
            (("oak", 0, 0), ("elm", 0, 0)), (("elm", 0, 0), ("elm", 0, 0)), (("elm", 0, 0), ("elm", 1, 0)),
            (("elm", 0, 0), None), (("elm", None, 0),),
        ]
        for thing in wrong:
            self.check(is_heard, thing, False)


if __name__ == "__main__":
    unittest.main()
