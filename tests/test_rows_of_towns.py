"""What has to hold behind any row of deeds at several towns, with falls and letters, tried with many rows."""
import random
import unittest

from towns import TOWNS, Towns


class TestRowsOfTowns(unittest.TestCase):
    def run_rows(self, seed, rows, steps, falls):
        """Runs so many rows; told is how often each word came."""
        chance = random.Random(seed)
        words = {}
        for _ in range(rows):
            towns = Towns(self, chance)
            for _ in range(steps):
                towns.some_step(falls)
                towns.check_rights()
                if not falls:
                    towns.check_found()
            towns.check_sway()
            for word, many in towns.words.items():
                words[word] = words.get(word, 0) + many
        return words

    def test_with_falls(self):
        words = self.run_rows(8, 80, 300, True)
        for word in ("taken", "nothing", "news", "told", "late", "twice", "counts", "sure", "open", "seat", "note",
                     "leave", "vote", "lay", "NoRight"):
            self.assertGreater(words.get(word, 0), 20, word)

    def test_without_falls(self):
        words = self.run_rows(17, 40, 300, False)
        for word in ("taken", "nothing", "news", "open", "seat", "note", "vote", "NoRight"):
            self.assertGreater(words.get(word, 0), 20, word)
        self.assertNotIn("sure", words)

    def test_asking_ends(self):
        # Where nobody rises and all that is sent comes, no town stays wary.
        chance = random.Random(82)
        for _ in range(25):
            towns = Towns(self, chance)
            for _ in range(150):
                towns.some_step(True)
            for _ in range(4):
                seen = len(towns.mail)
                for town in TOWNS:
                    towns.ask(town)
                while seen < len(towns.mail):
                    towns.come(towns.mail[seen])
                    seen += 1
                towns.check_rights()
            self.assertEqual([town for town in TOWNS if towns.is_wary(town)], [])


if __name__ == "__main__":
    unittest.main()
