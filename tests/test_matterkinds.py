import copy
import unittest

from samples import ANN, ANY_THINGS, BOB, CAT, DAN, EVE, with_part
from strangerbench.matterkinds import are_burnings, first_book, is_book, is_matter, is_name, is_note

NAME = ("elm", 0, 0)
LATER = ("elm", 1, 2)
NOTE = (("oak", 0, 0), (ANN, BOB), "yes")
MATTER = (NAME, None, (ANN, BOB), (ANN, BOB, CAT), (NOTE,), ((ANN, "yes"), (BOB, "no")), None)
BURNING = ((ANN, BOB), NAME, 4)
BOOK = ("elm", 1, (0, 0, ()), (MATTER,), (BURNING,))


class TestMatterKinds(unittest.TestCase):
    def check(self, look, thing, told):
        before = copy.deepcopy(thing)
        self.assertIs(look(thing), told, thing)
        self.assertIs(look(thing=thing), told, thing)
        self.assertEqual(thing, before)

    def check_parts(self, look, thing, rights, wrongs):
        for at, parts in rights:
            for part in parts:
                self.check(look, with_part(thing, at, part), True)
        for at, parts in wrongs:
            for part in parts:
                self.check(look, with_part(thing, at, part), False)

    def test_any_things_are_none_of_these(self):
        for thing in ANY_THINGS:
            for look in (is_name, is_note, is_matter, is_book):
                self.check(look, thing, False)
            self.check(are_burnings, thing, thing == () and type(thing) is tuple)

    def test_names(self):
        for thing in (NAME, ("nowhere", 10 ** 70, 10 ** 70)):
            self.check(is_name, thing, True)
        for thing in (list(NAME), NAME[:2], NAME + (0,), ("Elm", 0, 0), ("elm", True, 0), ("elm", 0, False),
                      ("elm", -1, 0), ("elm", 0, -1), ("elm", None, 0), ("elm", "0", 0), (0, 0, 0), ("elm", (0,), 0)):
            self.check(is_name, thing, False)

    def test_notes(self):
        self.check_parts(
            is_note, NOTE,
            [(0, (LATER,)), (1, ((), (ANN,), (ANN, BOB, CAT))), (2, ("yes", "no"))],
            [(0, (None, "elm", ["elm", 0, 0], ("elm", True, 0))),
             (1, (None, [], [ANN], (BOB, ANN), (ANN, ANN), (list(ANN),), ANN, (ANN, None))),
             (2, (None, "laid", "broken", "", "Yes", True, 1, ("yes",), ["no"]))],
        )
        for thing in (list(NOTE), NOTE[:2], NOTE + (None,)):
            self.check(is_note, thing, False)

    def test_matters(self):
        other = (("oak", 0, 0), (), "no")
        after = (("oak", 0, 1), (ANN,), "no")
        hands = ((), (ANN,), (EVE, ANN, DAN, BOB, CAT))
        no_hands = (None, [], [ANN], (BOB, ANN), (ANN, ANN), (list(ANN),), ANN, (ANN, None), "elm")
        self.check_parts(
            is_matter, MATTER,
            [(0, (LATER,)), (1, (None, LATER, NAME)), (2, hands), (3, hands),
             (4, ((), (NOTE,), (other, NOTE), (NOTE, after), (other, NOTE, after))),
             (5, ((), ((ANN, "yes"),), ((CAT, "no"),))),
             (6, (None, "yes", "no", "laid", "broken"))],
            [(0, (None, list(NAME), ("elm", False, 0))),
             (1, (0, False, "", list(NAME), ("elm", 0, True), ())),
             (2, no_hands), (3, no_hands),
             (4, (None, [], [NOTE], (list(NOTE),), (NOTE, NOTE), (NOTE, other), (after, NOTE), NOTE, (None,))),
             (5, (None, [], [(ANN, "yes")], (["x", "yes"],), ((ANN, "laid"),), ((ANN, None),), ((BOB, "no"), (ANN, "no")),
                  ((ANN, "no"), (ANN, "yes")), ((ANN, "yes"), (ANN, "yes")), (ANN, "yes"), ((ANN, "yes", 0),),
                  ((ANN, True),), (("elm", "yes"),), ([ANN, "yes"],))),
             (6, ("open", "", True, False, 0, ("yes",), ["laid"]))],
        )
        for thing in (list(MATTER), MATTER[:6], MATTER + (None,)):
            self.check(is_matter, thing, False)

    def test_burnings(self):
        after = ((ANN, BOB), NAME, 5)
        for_another = ((ANN, BOB), LATER, 0)
        of_another = ((ANN, CAT), NAME, 0)
        for thing in ((), (BURNING,), (BURNING, after), (BURNING, after, for_another, of_another),
                      (with_part(BURNING, 2, 10 ** 70),)):
            self.check(are_burnings, thing, True)
        for thing in ([], [BURNING], (list(BURNING),), BURNING, (BURNING, BURNING), (after, BURNING),
                      (for_another, after), (of_another, BURNING), (BURNING[:2],), (BURNING + (0,),), (BURNING, None)):
            self.check(are_burnings, thing, False)
        for at, parts in ((0, ((BOB, ANN), [ANN, BOB], (ANN, ANN), ANN)), (1, (None, list(NAME), ("elm", True, 0))),
                          (2, (-1, True, False, None, "4", (4,)))):
            for part in parts:
                self.check(are_burnings, (with_part(BURNING, at, part),), False)

    def test_books(self):
        open_later = (LATER, NAME, (), (), (), (), None)
        self.check_parts(
            is_book, BOOK,
            [(0, ("oak", "nowhere")), (1, (0, 10 ** 70)), (2, ((5, 6, ()),)), (3, ((), (MATTER, open_later))),
             (4, ((), (BURNING, ((ANN, CAT), LATER, 0))))],
            [(0, (None, "", "Elm", 0, ("elm",))), (1, (-1, True, False, None, "0")),
             (2, (None, (), [0, 0, ()], (0, 0), (True, 0, ()), (0, 0, []))),
             (3, (None, [], [MATTER], MATTER, (list(MATTER),), (MATTER, MATTER), (open_later, MATTER),
                  (MATTER, with_part(MATTER, 6, "yes")), (with_part(MATTER, 6, 0),), (MATTER, None))),
             (4, (None, [], [BURNING], BURNING, (BURNING, BURNING), (list(BURNING),), (with_part(BURNING, 2, True),)))],
        )
        for thing in (list(BOOK), BOOK[:4], BOOK + ((),)):
            self.check(is_book, thing, False)

    def test_the_first_book(self):
        told = first_book("elm")
        self.assertEqual(told, ("elm", 0, (0, 0, ()), (), ()))
        self.assertEqual(first_book(town="oak")[0], "oak")
        self.assertIs(type(told), tuple)
        self.assertIs(type(told[1]), int)
        self.check(is_book, told, True)


if __name__ == "__main__":
    unittest.main()
