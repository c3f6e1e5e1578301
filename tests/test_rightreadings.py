import random
import unittest

from samples import ANN, BOB, CAT, DAN, EVE, HANDS, all_tuples, refusal
from strangerbench.handpairs import pairs_of
from strangerbench.rightkinds import is_rights
from strangerbench.rightreadings import rights_read
from strangerbench.righttexts import rights_text

ROWS = (
    ((EVE, ANN), (0, 0), "elm", "ash", 1, 2, True),
    ((ANN, DAN), (3, 4), "oak", "elm", 5, 6, False),
    ((ANN, BOB), (10, 0), "ash", "oak", 0, 99, False),
    ((BOB, CAT), (7, 8), "ash", "oak", 9, 10, False),
)
RIGHTS = (1, 20, ROWS)
LINES = ["1 20", "ash.eve elm.ann 0 0 elm ash 1 2 here", "elm.ann elm.dan 3 4 oak elm 5 6 away",
         "elm.ann oak.bob 10 0 ash oak 0 99 away", "oak.bob oak.cat 7 8 ash oak 9 10 away"]
ROW = LINES[2].split(" ")
BAD_NUMBERS = ("", "00", "01", "007", "-1", "+1", "1.0", "1,0", "one", "1" + "0" * 60, "9" * 61, "0" * 60, "a1", "1a",
               "elm.ann", "-", "True", "~", "1_0", "0x1", "1\t")
BAD_HANDS = ("", "elm", "elm.", ".ann", ".", "elm.ann.bob", "Elm.ann", "elm.Ann", "elm.ann1", "elm-ann", "elm,ann",
             "abcdefghi.ann", "elm.abcdefghi", "elm..ann", "elm.ann.", "1", "elm+ann", "elm.ann+oak.bob", "~.~")
BAD_TOWNS = ("", "Elm", "abcdefghi", "elm.ann", "1", "elm1", "-", "e-m", "~", "_")


class ReadCase(unittest.TestCase):
    def read(self, text, wanted):
        told = rights_read(text)
        self.assertEqual(told, wanted)
        self.assertEqual(rights_read(text=text), wanted)
        self.assertIs(is_rights(told), True)
        self.assertIs(all_tuples(told), True)

    def refused(self, text, line, word):
        told = refusal(rights_read, text)
        self.assertEqual(told, ("NoText", line, word), text)
        self.assertEqual([type(field) for field in told], [str, int, int])
        self.assertEqual(refusal(rights_read, text=text), told)

    def line_refused(self, words, line, word, at=2):
        """Another line in the stead of the one of this number, which can be read but for these words."""
        lines = LINES[:at] + [" ".join(words)] + LINES[at + 1:]
        self.refused("\n".join(lines), line, word)


class TestRead(ReadCase):
    def test_what_was_written(self):
        for rights in (RIGHTS, (0, 0, ()), (3, 12, ()), (10, 100, ROWS[1:]), (0, 5, ROWS[:1])):
            self.read(rights_text(rights), rights)
        self.read("\n".join(LINES), RIGHTS)

    def test_towns_called_as_other_words(self):
        row = (((("away", "here")), ("here", "away")), (0, 0), "here", "away", 0, 0, True)
        self.read("0 0\naway.here here.away 0 0 here away 0 0 here", (0, 0, (row,)))

    def test_numbers_of_sixty_figures(self):
        big = "9" * 60
        self.read(f"{big} {big}", (10 ** 60 - 1, 10 ** 60 - 1, ()))
        row = ((ANN, BOB), (10 ** 60 - 1, 10 ** 59), "elm", "oak", 10 ** 60 - 1, 0, False)
        self.read(f"0 0\nelm.ann oak.bob {big} 1{'0' * 59} elm oak {big} 0 away", (0, 0, (row,)))

    def test_words_of_one_to_eight_letters(self):
        row = ((("a", "z"), ("abcdefgh", "abcdefgh")), (0, 0), "zzzzzzzz", "a", 0, 0, False)
        self.read("0 0\na.z abcdefgh.abcdefgh 0 0 zzzzzzzz a 0 0 away", (0, 0, (row,)))

    def test_any_rights(self):
        chance = random.Random(23)
        for _ in range(100):
            rows = [(pair, (chance.randrange(20), chance.randrange(200)), chance.choice(("ash", "here")), "oak",
                     chance.randrange(12), chance.randrange(9999), chance.random() < 0.5)
                    for pair in pairs_of(HANDS) if chance.random() < 0.5]
            rights = (chance.randrange(30), chance.randrange(9999), tuple(rows))
            self.read(rights_text(rights), rights)


class TestFirstLine(ReadCase):
    def test_void(self):
        self.refused("", 0, 0)
        self.refused("\n", 0, 0)
        self.refused("\n" + LINES[1], 0, 0)
        self.refused(" ", 0, 0)

    def test_words(self):
        for bad in BAD_NUMBERS:
            self.refused(f"{bad} 0", 0, 0)
            self.refused(f"0 {bad}", 0, 1)
            self.refused(f"{bad} {bad}", 0, 0)
            self.refused(f"0 {bad}\n", 0, 1)

    def test_too_few_or_too_many(self):
        self.refused("0", 0, 1)
        self.refused("12\n" + LINES[1], 0, 1)
        for more in ("0 0 0", "0 0 ", "0 0 x y", "0 0  "):
            self.refused(more, 0, 2)
            self.refused(more + "\n" + LINES[1], 0, 2)

    def test_blanks(self):
        self.refused(" 0 0", 0, 0)
        self.refused("0  0", 0, 1)
        self.refused("0 0 ", 0, 2)
        self.refused("0 0\t", 0, 1)
        self.refused("0\t0", 0, 0)


class TestRows(ReadCase):
    def test_a_line_without_signs(self):
        self.refused("0 0\n", 1, 0)
        self.refused("\n".join(LINES + [""]), 5, 0)
        self.refused("\n".join(LINES[:2] + [""] + LINES[2:]), 2, 0)
        self.line_refused([""], 2, 0)

    def test_each_word_that_lacks(self):
        for many in range(1, 9):
            self.line_refused(ROW[:many], 2, many)
            self.line_refused(ROW[:many] + [""], 2, many)

    def test_a_word_too_many(self):
        for more in ("here", "0", "", "x"):
            self.line_refused(ROW + [more], 2, 9)
            self.line_refused(ROW + [more, more], 2, 9)

    def test_each_word_that_cannot_stand(self):
        for at in range(9):
            bads = BAD_HANDS if at < 2 else BAD_TOWNS if at in (4, 5) else BAD_NUMBERS
            if at == 8:
                bads = ("", "Here", "her", "heree", "there", "0", "True", "none", "here.", "elm", "away,", "-")
            for bad in bads:
                self.line_refused(ROW[:at] + [bad] + ROW[at + 1:], 2, at)
                # Whatever stands behind, or lacks there.
                self.line_refused(ROW[:at] + [bad], 2, at)
                self.line_refused(ROW[:at] + [bad] + ["~"] * 12, 2, at)
            self.line_refused(ROW[:at] + [""] + ROW[at:], 2, at)

    def test_blanks_at_the_ends(self):
        self.refused("\n".join(LINES[:2] + [" " + LINES[2]] + LINES[3:]), 2, 0)
        self.refused("\n".join(LINES[:2] + [LINES[2] + " "] + LINES[3:]), 2, 9)
        self.refused("\n".join(LINES) + " ", 4, 9)

    def test_the_second_hand_is_above_the_first(self):
        for words in (["elm.dan", "elm.ann"], ["elm.ann", "elm.ann"], ["elm.ann", "ash.zoe"], ["elm.ann", "elm.an"]):
            self.line_refused(words + ROW[2:], 2, 1)
            self.line_refused(words, 2, 1)
            self.line_refused(words + ["~"], 2, 1)
            self.refused("0 0\n" + " ".join(words + ROW[2:]), 1, 1)

    def test_rows_rise_by_their_pairs(self):
        # The row ahead is of Eve and Ann, the one behind of Ann and Bob.
        for words, word in ((["ash.eve", "ash.zoe"], 1), (["ash.eve", "elm.ann"], 1), (["ash.dan", "elm.dan"], 0),
                            (["ash.eva", "oak.bob"], 0), (["aaa.eve", "zzz.zoe"], 0)):
            self.line_refused(words + ROW[2:], 2, word)
            self.line_refused(words[:1 + word], 2, word)
            self.line_refused(words + ["~"], 2, word)
        self.line_refused(["elm.ann", "oak.bob"] + ROW[2:], 3, 1)
        self.line_refused(["elm.ann", "oak.cat"] + ROW[2:], 3, 1)
        self.line_refused(["elm.bob", "oak.cat"] + ROW[2:], 3, 0)
        self.refused("\n".join(LINES + [LINES[4]]), 5, 1)
        self.refused("\n".join(LINES + [LINES[3]]), 5, 0)

    def test_the_first_line_goes(self):
        lines = list(LINES)
        for at in (4, 3, 2, 1, 0):
            lines[at] = "x"
            self.refused("\n".join(lines), at, 0)

    def test_any_texts(self):
        for text in ("x" * 4000, " " * 4000, "\n" * 4000, "~", "elm.ann oak.bob 0 1 elm oak 0 12 here", "()", "0, 0",
                     "here", "\\n"):
            self.refused(text, 0, 0)
        chance = random.Random(24)
        whole = "\n".join(LINES)
        for _ in range(400):
            at = chance.randrange(len(whole))
            text = whole[:at] + chance.choice(" .\n0az~-") + whole[at + chance.randrange(2):]
            try:
                told = rights_read(text)
            except ValueError as refused:
                line, word = refused.line, refused.word
                self.assertEqual(refusal(rights_read, text), ("NoText", line, word))
                self.assertLessEqual(line, text.count("\n"))
                self.assertLessEqual(word, len(text.split("\n")[line].split(" ")))
                # All lines ahead of it can be read.
                if line > 0:
                    rights_read("\n".join(text.split("\n")[:line]))
            else:
                self.assertEqual(rights_text(told), text)


if __name__ == "__main__":
    unittest.main()
