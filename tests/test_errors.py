import unittest

from strangerbench import errors
from strangerbench.errors import BenchError, LackError


class Untouched:
    """A thing that must not be looked at."""

    def refuse(self, *told):
        raise AssertionError("it was looked at")

    __eq__ = __ne__ = __lt__ = __len__ = __bool__ = __iter__ = __hash__ = refuse
    __str__ = __repr__ = __contains__ = __getitem__ = __call__ = __int__ = refuse


BENCH_ERRORS = {
    "NoPaper": ("word", "at"),
    "NoRight": ("pair", "why"),
    "NoMatter": ("word",),
    "NoDeed": ("word",),
    "NoText": ("line", "word"),
    "NoMore": ("most",),
    "NoRow": ("row",),
}
LACK_ERRORS = {"NoTown": ("name",), "NoHand": ("hand",), "NoName": ("name",), "NoStep": ("number",)}
ALL_ERRORS = {**BENCH_ERRORS, **LACK_ERRORS}


class TestErrors(unittest.TestCase):
    def test_bases(self):
        self.assertEqual(BenchError.__bases__, (ValueError,))
        self.assertEqual(LackError.__bases__, (LookupError,))

    def test_each_stands_straight_under_its_base(self):
        for word in BENCH_ERRORS:
            self.assertEqual(getattr(errors, word).__bases__, (BenchError,), word)
        for word in LACK_ERRORS:
            self.assertEqual(getattr(errors, word).__bases__, (LackError,), word)

    def test_fields_by_place_and_by_name(self):
        for word, fields in ALL_ERRORS.items():
            refusal = getattr(errors, word)
            things = [[at, None, (True,)] for at in range(len(fields))]
            by_place = refusal(*things)
            by_name = refusal(**dict(zip(fields, things)))
            for field, thing in zip(fields, things):
                self.assertIs(getattr(by_place, field), thing, word)
                self.assertIs(getattr(by_name, field), thing, word)

    def test_just_these_fields(self):
        for word, fields in ALL_ERRORS.items():
            refusal = getattr(errors, word)
            with self.assertRaises(TypeError):
                refusal(*([0] * (len(fields) + 1)))
            with self.assertRaises(TypeError):
                refusal(*([0] * (len(fields) - 1)))

    def test_fields_are_looked_at_in_no_way(self):
        for word, fields in ALL_ERRORS.items():
            things = [Untouched() for _ in fields]
            try:
                raise getattr(errors, word)(*things)
            except (BenchError, LackError) as refused:
                for field, thing in zip(fields, things):
                    self.assertIs(getattr(refused, field), thing, word)

    def test_fields_are_not_copied(self):
        rows = [1, [2]]
        self.assertIs(errors.NoRow(rows).row, rows)
        self.assertEqual(errors.NoRow(rows).row, [1, [2]])
        self.assertIs(errors.NoPaper(rows, rows).at, rows)


if __name__ == "__main__":
    unittest.main()
