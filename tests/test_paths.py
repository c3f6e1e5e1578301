import unittest

from samples import ANN, BOB, CAT, DAN, EVE
from strangerbench.errors import NoName
from strangerbench.paths import path_of, path_voices, root_of


def matter(name, lower, voices):
    """A matter of which just the name, the lower one and the voices matter here."""
    return (name, lower, (), voices, (), (), "yes")


A = ("elm", 0, 0)
B = ("elm", 0, 1)
C = ("elm", 1, 0)
D = ("elm", 1, 1)
E = ("oak", 0, 0)
MATTERS = (
    matter(A, None, (BOB, CAT)),
    matter(B, A, (ANN,)),
    matter(C, B, ()),
    matter(D, C, (EVE, BOB)),
    matter(E, A, (DAN,)),
)


class TestPaths(unittest.TestCase):
    def test_paths_of_one_to_four(self):
        self.assertEqual(path_of(MATTERS, A), (A,))
        self.assertEqual(path_of(MATTERS, B), (B, A))
        self.assertEqual(path_of(MATTERS, C), (C, B, A))
        self.assertEqual(path_of(matters=MATTERS, name=D), (D, C, B, A))
        self.assertEqual(path_of(MATTERS, E), (E, A))
        self.assertIs(type(path_of(MATTERS, A)), tuple)

    def test_roots(self):
        for name in (A, B, C, D, E):
            self.assertEqual(root_of(MATTERS, name), A)
        self.assertEqual(root_of(matters=MATTERS[:1], name=A), A)
        self.assertEqual(root_of((matter(B, None, ()), matter(C, B, ())), C), B)

    def test_voices_of_all_on_the_path(self):
        self.assertEqual(path_voices(MATTERS, A), (BOB, CAT))
        self.assertEqual(path_voices(MATTERS, B), (ANN, BOB, CAT))
        self.assertEqual(path_voices(MATTERS, C), (ANN, BOB, CAT))
        self.assertEqual(path_voices(matters=MATTERS, name=D), (EVE, ANN, BOB, CAT))
        self.assertEqual(path_voices(MATTERS, E), (DAN, BOB, CAT))
        self.assertEqual(path_voices((matter(A, None, ()),), A), ())
        self.assertIs(type(path_voices(MATTERS, A)), tuple)

    def test_a_name_that_none_has(self):
        name = ("elm", 0, 2)
        for look in (path_of, root_of, path_voices):
            for matters in (MATTERS, ()):
                with self.assertRaises(NoName) as caught:
                    look(matters, name)
                self.assertIs(caught.exception.name, name)


if __name__ == "__main__":
    unittest.main()
