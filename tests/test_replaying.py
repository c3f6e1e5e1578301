import unittest

from goings import A, ALONE, BUSY, TWO, all_told, do, world_of
from samples import ANN, BOB, DAN, RULE, refusal
from strangerbench.replaying import replayed
from strangerbench.worlds import World


class TestReplayed(unittest.TestCase):
    def test_the_rule_alone(self):
        for rule in (RULE, ALONE, TWO):
            world = replayed((("world", rule),))
            self.assertIs(type(world), World)
            self.assertEqual(all_told(world), all_told(World(rule)))

    def test_an_equal_world(self):
        for many in range(len(BUSY) + 1):
            log = world_of(BUSY[:many]).log()
            before = repr(log)
            for world in (replayed(log), replayed(log=log)):
                self.assertEqual(world, world_of(BUSY[:many]))
                self.assertEqual(all_told(world), all_told(world_of(BUSY[:many])))
                # It goes on alike.
                for row in BUSY[many:]:
                    do(world, row)
                self.assertEqual(all_told(world), all_told(world_of(BUSY)))
            self.assertEqual(repr(log), before)

    def test_a_new_one_each_time(self):
        log = world_of(BUSY).log()
        one, other = replayed(log), replayed(log)
        one.undo()
        self.assertEqual(len(other), len(BUSY))

    def test_the_first_refusal(self):
        head = (("world", RULE),)
        for row, wanted in (
            (("day", 2), ("NoDeed", "day")),
            (("come", 2), ("NoStep", 2)),
            (("come", -1), ("NoStep", -1)),
            (("save", "fir"), ("NoTown", "fir")),
            (("rise", "fir", None), ("NoTown", "fir")),
            (("rise", "oak", 1), ("NoStep", 1)),
            (("rise", "oak", -1), ("NoStep", -1)),
            (("act", "fir", ("ask",)), ("NoTown", "fir")),
            (("act", "oak", ("ask",)), ("NoDeed", "sure")),
            (("act", "elm", ("open", None, ())), ("NoDeed", "wary")),
            (("act", "oak", ("open", A, ())), ("NoMatter", "lower")),
            (("act", "ash", ("open", None, (ANN, DAN))), ("NoRight", (ANN, DAN), "elm")),
            (("act", "elm", ("leave", A, BOB)), ("NoMatter", "end")),
            (("act", "elm", ("lay", ("elm", 7, 0))), ("NoName", ("elm", 7, 0))),
            (("act", "elm", ("note", ("oak", 0, 0), "oak")), ("NoName", ("oak", 0, 0))),
        ):
            log = head + BUSY + (row,)
            self.assertEqual(refusal(replayed, log), wanted)
            # Whatever goes behind it.
            self.assertEqual(refusal(replayed, log + (("day", 0), ("save", "zzz"))), wanted)

    def test_a_row_that_lacks(self):
        # Each row of these is needed by one behind it.
        head = (("world", RULE),)
        self.assertEqual(refusal(replayed, head + BUSY[1:]), ("NoName", A))
        self.assertEqual(refusal(replayed, head + BUSY[:1] + BUSY[2:]), ("NoMatter", "verdict"))
        self.assertEqual(refusal(replayed, head + BUSY[:4] + BUSY[5:]), ("NoStep", 1))
        self.assertEqual(refusal(replayed, head + BUSY[:7] + BUSY[8:]), ("NoRight", (ANN, BOB), "oak"))
        self.assertEqual(refusal(replayed, head + BUSY[:8] + BUSY[9:]), ("NoStep", 1))


if __name__ == "__main__":
    unittest.main()
