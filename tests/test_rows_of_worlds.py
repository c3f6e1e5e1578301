"""What has to hold of a world behind any row of deeds, with falls and letters, tried with many rows."""
import random
import unittest

from goings import RULE, TOWNS, Going, all_told, do
from strangerbench.letterscome import came
from strangerbench.replaying import replayed
from strangerbench.townacts import acted
from strangerbench.worlds import World

ACTS = ("open", "seat", "leave", "vote", "lay", "read", "note", "give", "send")


class TestRowsOfWorlds(unittest.TestCase):
    def goings(self, seed, many, steps, falls):
        """So many worlds behind so many steps; told is how often each word came, too."""
        chance = random.Random(seed)
        goings, words = [], {}
        for _ in range(many):
            going = Going(self, chance)
            for step in range(steps):
                going.do(going.some_row(falls))
                if step % 7 == 0:
                    going.check()
            going.check()
            going.check_truth()
            goings.append(going)
            for word, times in going.words.items():
                words[word] = words.get(word, 0) + times
        return goings, words

    def test_with_falls(self):
        goings, words = self.goings(80, 40, 200, True)
        for word in ACTS + ("ask", "day", "save", "rise", "taken", "nothing", "news", "told", "late", "twice", "counts",
                            "sure", "NoRight", "NoMatter", "NoHand", "NoName", "NoDeed", "NoTown", "NoStep"):
            self.assertGreater(words.get(word, 0), 10, word)
        for going in goings:
            going.check()

    def test_without_falls(self):
        _, words = self.goings(81, 25, 200, False)
        for word in ACTS + ("day", "save", "taken", "nothing", "news", "NoRight"):
            self.assertGreater(words.get(word, 0), 10, word)
        for word in ("rise", "sure", "counts"):
            self.assertNotIn(word, words)

    def test_done_again_from_its_log(self):
        # It tells all alike, and goes on alike.
        goings, _ = self.goings(85, 15, 120, True)
        for going in goings:
            again = replayed(going.world.log())
            self.assertEqual(again, going.world)
            self.assertEqual(all_told(again), all_told(going.world))
            for _ in range(20):
                row = going.some_row(True)
                told = going.do(row)
                if len(going.world) > len(again):
                    self.assertEqual(do(again, row), told)
            self.assertEqual(all_told(again), all_told(going.world))

    def test_undone_row_by_row(self):
        goings, _ = self.goings(84, 6, 60, True)
        for going in goings:
            rows = going.world.log()[1:]
            before = [World(RULE)]
            for many in range(1, len(rows)):
                before.append(replayed((("world", RULE),) + rows[:many]))
            for row in reversed(rows):
                self.assertEqual(going.world.undo(), row)
                self.assertEqual(all_told(going.world), all_told(before.pop()))

    def test_like_chests_do_alike(self):
        # What a town tells and sends hangs on its chest, the act or letter, and the day alone.
        goings, _ = self.goings(6, 10, 80, True)
        for going in goings:
            for _ in range(10):
                row = going.some_row(False)
                many, mail, day = len(going.world), going.world.mail(), going.world.day_now()
                chests = {town: going.world.chest_of(town) for town in TOWNS}
                told = going.do(row)
                if len(going.world) == many or row[0] not in ("act", "come"):
                    continue
                sent = going.world.mail()[len(mail):]
                town = row[1] if row[0] == "act" else mail[row[1]][2]
                if row[0] == "act":
                    wanted = acted(RULE, chests[town], row[2], day=day)
                else:
                    wanted = came(RULE, chests[town], mail[row[1]])
                self.assertEqual((going.world.chest_of(town), told, sent), wanted)

    def test_asking_ends(self):
        goings, _ = self.goings(82, 25, 120, True)
        words = {}
        for going in goings:
            going.ask_all()
            going.check()
            going.found_again()
            going.check()
            going.check_truth()
            for word, times in going.words.items():
                words[word] = words.get(word, 0) + times
        self.assertGreater(words["home"], 10)
        self.assertGreater(words["sent"], 10)


if __name__ == "__main__":
    unittest.main()
