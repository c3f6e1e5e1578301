"""Things that several tests look at."""

EVE = ("ash", "eve")
ANN = ("elm", "ann")
DAN = ("elm", "dan")
BOB = ("oak", "bob")
CAT = ("oak", "cat")

# As they rise.
HANDS = (EVE, ANN, DAN, BOB, CAT)

RULE = (("ash", "elm", "oak"), 3, 2, 7)


def nested(depth, kind):
    """A thing of so many lists or tuples within one another."""
    thing = kind()
    for _ in range(depth - 1):
        thing = kind([thing])
    return thing


# None of these is a word or anything that is made of words.
ANY_THINGS = [
    0, 1, -1, 7, 10 ** 59, -(10 ** 59), True, False, None,
    "", "A", "Elm", "elm ", " elm", "elm1", "el-m", "abcdefghi", "elm.ann", "elm\n", "~", "x" * 4000,
    [], (), [()], ([],), [None], (None,), (True, False), (0, 0), [0, 0], (0, 0, 0), (0, 0, []), (0, None, ()),
    ["elm", "ann"], ("elm",), ("elm", 1), ("elm", "ann", "bob"), ("elm", None), ("elm", True),
    [["elm", "ann"], ["oak", "bob"]], (["elm", "ann"], ["oak", "bob"]),
    (("elm", "ann", 0),), (0,) * 7, (None,) * 7, ((),) * 7, ([],) * 5, ((),) * 5, (None,) * 5, (0,) * 5, ("elm",) * 7,
    nested(20, list), nested(20, tuple), (0,) * 4990, [None] * 4990,
]
