import random
import unittest

from goings import BUSY
from samples import RULE, all_tuples, refusal
from strangerbench.replaying import replayed
from strangerbench.worldlogs import is_log
from strangerbench.worldreadings import read_log, read_row
from strangerbench.worldtexts import deed_line, log_lines
from test_worldtexts import ROWS

WORLD = "world ash,elm,oak 3 2 7"
NINES = "9" * 60
BAD_NUMBERS = ("", "00", "01", "-1", "-0", "+1", "1.0", "one", "1" + "0" * 60, "0" * 60, "-", "elm", "1_0", "~", "1\n")
BAD_SIGNED = ("", "00", "01", "-0", "-01", "--1", "+1", "1-", "1.0", "one", "1" + "0" * 60, "-1" + "0" * 60, "elm",
              "~", "1\n")
BAD_TOWNS = ("", "Elm", "abcdefghi", "elm1", "-", "elm.ann", "elm,oak", "1", "~", "elm\n", "e-m")
BAD_HANDS = ("", "elm", "elm.", ".ann", ".", "elm.ann.bob", "Elm.ann", "elm.Ann", "elm.ann1", "abcdefghi.ann",
             "elm.abcdefghi", "elm..ann", "-", "elm.ann,oak.bob", "elm.ann+oak.bob", "elm.0.0", "~", "elm.ann\n")
BAD_MANY = ("", ",", "elm.ann,", ",elm.ann", "elm.ann,,oak.bob", "oak.bob,elm.ann", "elm.ann,elm.ann", "-,elm.ann",
            "--", "elm.ann,-", "elm", "elm.ann+oak.bob", "elm.ann;oak.bob", "elm.ann,oak", "elm.Ann", "elm.0.0", "~")
BAD_PAIRS = ("", "+", "elm.ann", "elm.ann+", "+oak.bob", "oak.bob+elm.ann", "elm.ann+elm.ann", "elm.ann++oak.bob",
             "elm.ann+elm.dan+oak.bob", "elm.ann,oak.bob", "elm.ann+oak", "elm.ann-oak.bob", "-", "elm.Ann+oak.bob",
             "~")
BAD_NAMES = ("", "elm", "elm.0", "elm.0.0.0", "elm.0.", "elm..0", ".0.0", "Elm.0.0", "elm.00.0", "elm.0.01", "elm.-1.0",
             "elm.0.-1", "elm.a.0", "elm.0.b", "elm,0,0", "abcdefghi.0.0", "0.0.0", "elm.ann", "..", f"elm.0.1{NINES}",
             f"elm.1{NINES}.0", "~", "elm.0.0\n")
BAD_VERDICTS = ("", "Yes", "yess", "no ", "laid", "broken", "-", "0", "True", "elm")
# What can't stand for each kind of word; "or" is behind those that may be told as -.
BAD = {
    "number": BAD_NUMBERS, "signed": BAD_SIGNED + ("-",), "signed or": BAD_SIGNED, "town": BAD_TOWNS, "hand": BAD_HANDS,
    "hands or": BAD_MANY, "pair": BAD_PAIRS, "name": BAD_NAMES + ("-",), "name or": BAD_NAMES, "verdict": BAD_VERDICTS,
}
# A line of each word, and of what kind each word behind it is.
LINES = (
    ("day 7", ("number",)),
    ("come -3", ("signed",)),
    ("save elm", ("town",)),
    ("rise elm 2", ("town", "signed or")),
    ("open elm elm.0.0 elm.ann,oak.bob", ("town", "name or", "hands or")),
    ("seat elm elm.0.0 oak.bob", ("town", "name", "hand")),
    ("leave elm elm.0.0 oak.bob", ("town", "name", "hand")),
    ("vote elm elm.0.0 oak.bob yes", ("town", "name", "hand", "verdict")),
    ("lay elm elm.0.0", ("town", "name")),
    ("read elm elm.0.0 oak.1.2", ("town", "name", "name")),
    ("note elm elm.0.0 oak", ("town", "name", "town")),
    ("give elm elm.ann+oak.bob oak", ("town", "pair", "town")),
    ("send elm elm.ann+oak.bob", ("town", "pair")),
    ("ask elm", ("town",)),
)
NO_WORDS = ("", "Day", "days", "act", "world", "undo", "now", "log", "fall", "-", "0", "elm", "elm.ann", "~", "day\n")


class ReadCase(unittest.TestCase):
    def row_refused(self, text, word):
        told = refusal(read_row, text)
        self.assertEqual(told, ("NoText", 0, word), text)
        self.assertEqual([type(field) for field in told], [str, int, int])
        self.assertEqual(refusal(read_row, text=text), told)
        # It is refused alike amid a log, but for its line.
        for ahead in (1, 2):
            lines = [WORLD] + ["day 0"] * (ahead - 1) + [text, "x"]
            before = list(lines)
            self.assertEqual(refusal(read_log, lines), ("NoText", ahead, word), text)
            self.assertEqual(lines, before)

    def log_refused(self, lines, line, word):
        before = list(lines)
        told = refusal(read_log, lines)
        self.assertEqual(told, ("NoText", line, word), lines)
        self.assertEqual([type(field) for field in told], [str, int, int])
        self.assertEqual(refusal(read_log, lines=lines), told)
        self.assertEqual(lines, before)


class TestReadRow(ReadCase):
    def test_what_was_written(self):
        for row, line in ROWS:
            told = read_row(line)
            self.assertEqual(told, row)
            self.assertEqual(read_row(text=line), row)
            self.assertIs(all_tuples(told), True)
        for line, _ in LINES:
            self.assertEqual(deed_line(read_row(line)), line)

    def test_numbers(self):
        for number in ("0", "1", "10", "9999", NINES):
            self.assertEqual(read_row(f"day {number}"), ("day", int(number)))
            self.assertEqual(read_row(f"come {number}"), ("come", int(number)))
            self.assertEqual(read_row(f"rise elm {number}"), ("rise", "elm", int(number)))
            name = ("elm", int(number), int(number))
            self.assertEqual(read_row(f"lay elm elm.{number}.{number}"), ("act", "elm", ("lay", name)))
            if number != "0":
                self.assertEqual(read_row(f"come -{number}"), ("come", -int(number)))
                self.assertEqual(read_row(f"rise elm -{number}"), ("rise", "elm", -int(number)))

    def test_none(self):
        self.assertEqual(read_row("rise elm -"), ("rise", "elm", None))
        self.assertEqual(read_row("open elm - -"), ("act", "elm", ("open", None, ())))
        self.assertEqual(read_row("open elm elm.0.0 -"), ("act", "elm", ("open", ("elm", 0, 0), ())))

    def test_hands_of_many(self):
        told = read_row("open fir - a.a,a.b,abcdefgh.abcdefgh,b.a")
        self.assertEqual(told[2][2], (("a", "a"), ("a", "b"), ("abcdefgh", "abcdefgh"), ("b", "a")))

    def test_each_word_that_cannot_stand(self):
        for line, kinds in LINES:
            words = line.split(" ")
            for at, kind in enumerate(kinds, start=1):
                for bad in BAD[kind]:
                    for rest in (words[at + 1:], [], ["~"] * 9, [""]):
                        # A bad word may have a blank, so it is two.
                        self.row_refused(" ".join(words[:at] + [bad.replace(" ", "~")] + rest), at)

    def test_each_word_that_lacks(self):
        for line, kinds in LINES:
            words = line.split(" ")
            for many in range(1, len(words)):
                self.row_refused(" ".join(words[:many]), many)
                self.row_refused(" ".join(words[:many] + [""]), many)

    def test_a_word_too_many(self):
        for line, kinds in LINES:
            for more in (" x", " ", "  ", " 0", " -", " elm", " yes x"):
                self.row_refused(line + more, 1 + len(kinds))

    def test_void_words(self):
        for line, kinds in LINES:
            words = line.split(" ")
            for at in range(len(words)):
                self.row_refused(" ".join(words[:at] + [""] + words[at:]), at)
        for text in ("", " ", "  ", "\n"):
            self.row_refused(text, 0)

    def test_first_words(self):
        for word in NO_WORDS:
            for rest in ("", " elm", " 7", " elm elm.0.0 oak.bob", " ash,elm,oak 3 2 7", " "):
                self.row_refused(word + rest, 0)
        self.row_refused(WORLD, 0)

    def test_any_texts(self):
        for text in ("x" * 4000, " " * 4000, "day 7\nday 8", "day 7\n", "\nday 7", "('day', 7)", "day,7"):
            self.row_refused(text, 1 if text.startswith("day ") else 0)
        chance = random.Random(87)
        for _ in range(600):
            line = chance.choice(LINES)[0]
            at = chance.randrange(len(line))
            text = line[:at] + chance.choice(" .,+-0az~\n") + line[at + chance.randrange(2):]
            try:
                told = read_row(text)
            except ValueError as refused:
                self.assertEqual(refused.line, 0)
                self.assertLessEqual(refused.word, len(text.split(" ")))
            else:
                self.assertEqual(deed_line(told), text)


class TestReadLog(ReadCase):
    def test_what_was_written(self):
        log = (("world", RULE),) + tuple([row for row, _ in ROWS])
        lines = log_lines(log)
        told = read_log(lines)
        self.assertEqual(told, log)
        self.assertEqual(read_log(lines=lines), log)
        self.assertIs(is_log(told), True)
        self.assertIs(all_tuples(told), True)
        self.assertEqual(lines, log_lines(log))

    def test_rules(self):
        for line, rule in ((WORLD, RULE), ("world a 2 2 1", (("a",), 2, 2, 1)),
                           ("world a,abcdefgh 5 5 99", (("a", "abcdefgh"), 5, 5, 99)),
                           (f"world elm 5 3 {NINES}", (("elm",), 5, 3, int(NINES)))):
            self.assertEqual(read_log([line]), (("world", rule),))

    def test_a_log_that_can_be_done_again(self):
        lines = log_lines((("world", RULE),) + BUSY)
        self.assertEqual(log_lines(replayed(read_log(lines)).log()), lines)

    def test_no_lines(self):
        self.log_refused([], 0, 0)

    def test_a_world_that_is_not_the_first(self):
        self.log_refused(["day 0"], 0, 0)
        self.log_refused(["day 0", WORLD], 0, 0)
        self.log_refused([WORLD, WORLD], 1, 0)
        self.log_refused([WORLD, "day 0", WORLD], 2, 0)
        for word in NO_WORDS:
            if word != "world":
                self.log_refused([word + " ash,elm,oak 3 2 7"], 0, 0)

    def test_words_of_the_rule(self):
        for towns in ("", ",", "elm,", ",elm", "elm,,oak", "oak,elm", "elm,elm", "Elm", "elm1", "elm,abcdefghi", "-",
                      "0", "elm.oak"):
            for rest in (" 3 2 7", "", " ", " x x x", " 3 2 7 8"):
                self.log_refused([f"world {towns}{rest}"], 0, 1)
        for seats in ("0", "1", "6", "10") + BAD_NUMBERS:
            for rest in (" 2 7", "", " ", " x x", " 2 7 8"):
                self.log_refused([f"world elm {seats}{rest}"], 0, 2)
        good = {(2, 2), (3, 2), (3, 3), (4, 3), (4, 4), (5, 3), (5, 4), (5, 5)}
        for seats in range(2, 6):
            for needed in [str(number) for number in range(8) if (seats, number) not in good] + list(BAD_NUMBERS):
                for rest in (" 7", "", " ", " x", " 7 8"):
                    self.log_refused([f"world elm {seats} {needed}{rest}"], 0, 3)
        for span in ("0",) + BAD_NUMBERS:
            for rest in ("", " ", " 8"):
                self.log_refused([f"world elm 3 2 {span}{rest}"], 0, 4)

    def test_how_many_words(self):
        words = WORLD.split(" ")
        for many in range(1, 5):
            self.log_refused([" ".join(words[:many])], 0, many)
            self.log_refused([" ".join(words[:many] + [""] + words[many:])], 0, many)
        for more in (" ", " 0", " x"):
            self.log_refused([WORLD + more], 0, 5)
        self.log_refused([" " + WORLD], 0, 0)
        self.log_refused([""], 0, 0)

    def test_the_first_line_goes(self):
        lines = [WORLD] + [line for line, _ in LINES]
        for at in range(len(lines) - 1, -1, -1):
            lines[at] = lines[at] + " x"
            self.log_refused(lines, at, len(lines[at].split(" ")) - 1)
        self.log_refused([WORLD, "day 0", "", ""], 2, 0)

    def test_one_line_with_all(self):
        self.log_refused([WORLD + "\nday 0"], 0, 4)
        self.log_refused([WORLD + " / day 0"], 0, 5)


if __name__ == "__main__":
    unittest.main()
