import unittest

from samples import ANN, ANY_THINGS, BOB, CAT, EVE, check_look, check_parts
from strangerbench.letterkinds import is_act, is_chest, is_letter

A = ("elm", 0, 0)
ROW = ((ANN, BOB), (0, 1), "oak", "elm", 0, 12, False)
RIGHTS = (1, 5, (ROW,))
NOTE = (A, (ANN, BOB), "yes")
HEARD = (("elm", 1, 4), ("oak", 0, 0))
BOOK = ("elm", 1, RIGHTS, (), ())
TELL = ("oak", RIGHTS, HEARD)
NO_NAMES = (None, list(A), ("elm", True, 0), ("elm", 0), "elm", ANN)
NO_HANDS = (None, [], [ANN], (BOB, ANN), (ANN, ANN), (list(ANN),), ANN, (ANN, None), "elm")
NO_HAND = (None, list(ANN), ("elm", 1), (ANN, BOB), "elm")
NO_TOWNS = (None, "", "Elm", "abcdefghi", 0, ("elm",), ANN, ["elm"])
NO_PAIRS = (None, (BOB, ANN), (ANN, ANN), [ANN, BOB], ANN, (ANN,))
NO_NOTES = (None, list(NOTE), NOTE[:2], (A, (BOB, ANN), "yes"), (A, (), "laid"), (NOTE,))
NO_HEARD = (None, (), list(HEARD), HEARD[::-1], (HEARD[0], HEARD[0]), (("elm", True, 0),), (("elm", 0),), HEARD[0])
NO_RIGHTS = (None, (), [0, 0, ()], (0, 0), (True, 0, ()), (0, 0, []), (0, 0, (ROW, ROW)), ROW)
NO_WORDS = ("", "Give", "gives", "world", "come", None, 0, True, [], (), ["give"], ("give",))


class KindCase(unittest.TestCase):
    def check_all(self, look, thing, rights, wrongs):
        check_look(self, look, thing, True)
        check_parts(self, look, thing, rights, wrongs)
        for other in (list(thing), thing[:-1], thing + (None,), thing + (0,), (thing,), thing[1:]):
            check_look(self, look, other, False)
        for word in NO_WORDS:
            check_look(self, look, (word,) + thing[1:], False)


class TestIsLetter(KindCase):
    def check_letter(self, letter, at_3, wrongs):
        self.check_all(
            is_letter, letter,
            [(1, ("fir", "abcdefgh")), (2, ("fir",)), (3, at_3)],
            # From a town to itself, too.
            [(1, NO_TOWNS + ("oak",)), (2, NO_TOWNS + ("elm",))] + wrongs,
        )

    def test_give(self):
        # Neither the place nor the giver of the row is looked at by the towns.
        rows = (ROW[:2] + ("fir", "fir") + ROW[4:], ROW[:6] + (True,))
        self.check_letter(("give", "elm", "oak", ROW), rows, [
            (3, (None, list(ROW), ROW[:6], ROW[:6] + (0,), ((BOB, ANN),) + ROW[1:], (ROW,))),
        ])

    def test_note(self):
        self.check_letter(("note", "elm", "oak", NOTE), ((A, (), "no"), (("fir", 9, 9), (ANN,), "yes")), [(3, NO_NOTES)])

    def test_ask(self):
        self.check_letter(("ask", "elm", "oak", HEARD), ((("fir", 9, 9),), HEARD[:1]), [(3, NO_HEARD)])

    def test_tell(self):
        letter = ("tell", "elm", "oak", RIGHTS, HEARD)
        self.check_letter(letter, ((0, 0, ()),), [(3, NO_RIGHTS), (4, NO_HEARD)])
        check_parts(self, is_letter, letter, [(4, ((("fir", 9, 9),), HEARD[:1]))], [])
        check_look(self, is_letter, ("ask",) + letter[1:], False)
        check_look(self, is_letter, ("tell", "elm", "oak", HEARD), False)
        check_look(self, is_letter, ("tell", "elm", "oak", HEARD, RIGHTS), False)

    def test_any_things(self):
        for thing in ANY_THINGS:
            check_look(self, is_letter, thing, False)


class TestIsAct(KindCase):
    def test_open_and_seat_and_leave(self):
        self.check_all(is_act, ("open", None, (ANN, BOB)), [(1, (A,)), (2, ((), (EVE, ANN, BOB, CAT)))],
                       [(1, NO_NAMES[1:] + (False, 0, "", ())), (2, NO_HANDS)])
        for word in ("seat", "leave"):
            self.check_all(is_act, (word, A, ANN), [(1, (("fir", 9, 9),)), (2, (CAT,))], [(1, NO_NAMES), (2, NO_HAND)])

    def test_vote_and_lay(self):
        self.check_all(is_act, ("vote", A, ANN, "yes"), [(3, ("no",))], [
            (1, NO_NAMES), (2, NO_HAND), (3, (None, True, "laid", "broken", "", "Yes", ("yes",), ["yes"])),
        ])
        self.check_all(is_act, ("lay", A), [(1, (("fir", 9, 9),))], [(1, NO_NAMES)])

    def test_read_and_note(self):
        self.check_all(is_act, ("read", A, ("oak", 1, 1)), [(1, (("oak", 1, 1),)), (2, (A,))],
                       [(1, NO_NAMES), (2, NO_NAMES + (NOTE,))])
        self.check_all(is_act, ("note", A, "oak"), [(2, ("fir", "elm"))], [(1, NO_NAMES + (NOTE,)), (2, NO_TOWNS)])

    def test_give_and_send_and_ask(self):
        self.check_all(is_act, ("give", (ANN, BOB), "oak"), [(1, ((EVE, CAT),)), (2, ("fir", "elm"))],
                       [(1, NO_PAIRS), (2, NO_TOWNS)])
        self.check_all(is_act, ("send", (ANN, BOB)), [(1, ((EVE, CAT),))], [(1, NO_PAIRS)])
        check_look(self, is_act, ("ask",), True)
        for thing in (["ask"], ("ask", None), ("ask", "oak"), "ask", (("ask",),)):
            check_look(self, is_act, thing, False)

    def test_deeds_with_days_are_none(self):
        for thing in (("open", 0, None, ()), ("seat", 0, A, ANN), ("note", 0, A, NOTE)):
            check_look(self, is_act, thing, False)

    def test_any_things(self):
        for thing in ANY_THINGS:
            check_look(self, is_act, thing, False)


class TestIsChest(KindCase):
    def test_chests(self):
        ash = ("ash", (0, 0, ()), HEARD)
        chest = (BOOK, HEARD, (ash, TELL), (NOTE,))
        wrong_tells = ([], [TELL], TELL, (list(TELL),), (TELL, ash), (TELL, TELL), (TELL, ("oak", (0, 0, ()), HEARD)),
                       (TELL[:2],), (TELL + (0,),), (("Oak",) + TELL[1:],), (with_rights(()),), (TELL[:2] + ((),),),
                       (TELL, None), 0, False, "")
        self.check_all(
            is_chest, chest,
            [(0, (("fir", 0, (0, 0, ()), (), ()),)), (1, (HEARD[:1], (("fir", 9, 9),))),
             (2, (None, (), (TELL,), (("elm",) + TELL[1:],))), (3, ((), (NOTE, NOTE), (NOTE, (A, (), "no"), NOTE)))],
            [(0, (None, list(BOOK), BOOK[:4], BOOK + (0,), ("elm", True) + BOOK[2:])), (1, NO_HEARD), (2, wrong_tells),
             (3, (None, [], [NOTE], NOTE, (list(NOTE),), (NOTE, None), (A,)))],
        )

    def test_one_thing_is_not_looked_at_by_another(self):
        # The book is of a town that wasn't heard of, rose otherwise, and is among those that told.
        check_look(self, is_chest, (BOOK, (("fir", 0, 0),), (("elm", RIGHTS, HEARD),), (NOTE,)), True)

    def test_any_things(self):
        for thing in ANY_THINGS + [(None,) * 4, ((),) * 4, (BOOK, HEARD, None, None)]:
            check_look(self, is_chest, thing, False)


def with_rights(rights):
    """What oak told, with other rights."""
    return ("oak", rights, HEARD)


if __name__ == "__main__":
    unittest.main()
