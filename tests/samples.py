"""Things that several tests look at."""
import copy

from strangerbench.errors import BenchError, LackError

EVE = ("ash", "eve")
ANN = ("elm", "ann")
DAN = ("elm", "dan")
BOB = ("oak", "bob")
CAT = ("oak", "cat")

# As they rise.
HANDS = (EVE, ANN, DAN, BOB, CAT)

RULE = (("ash", "elm", "oak"), 3, 2, 7)


def nested(depth, kind):
    """A thing of so many lists or tuples within one another."""
    thing = kind()
    for _ in range(depth - 1):
        thing = kind([thing])
    return thing


def with_part(thing, at, part):
    """The tuple with another part at this place."""
    return thing[:at] + (part,) + thing[at + 1:]


def refusal(act, *things, **more):
    """The name of the refusal and what it keeps; fails where nothing is refused."""
    try:
        told = act(*things, **more)
    except (BenchError, LackError) as refused:
        return (type(refused).__name__,) + tuple(vars(refused).values())
    raise AssertionError(f"it told {told!r}")


def all_tuples(thing):
    """Whether it is a tuple, a number, a text, a truth or None, and all within it, too."""
    if type(thing) is tuple:
        return all([all_tuples(part) for part in thing])
    return thing is None or type(thing) in (int, str, bool)


def check_look(case, look, thing, told):
    """Whether a look by kind tells this, by place and by name, and leaves the thing as it was."""
    before = copy.deepcopy(thing)
    case.assertIs(look(thing), told, thing)
    case.assertIs(look(thing=thing), told, thing)
    case.assertEqual(repr(thing), repr(before))


def check_parts(case, look, thing, rights, wrongs):
    """Whether with other parts at some places it still is of the kind, or isn't."""
    for parts, told in ((rights, True), (wrongs, False)):
        for at, ones in parts:
            for one in ones:
                check_look(case, look, with_part(thing, at, one), told)


# None of these is a word or anything that is made of words.
ANY_THINGS = [
    0, 1, -1, 7, 10 ** 59, -(10 ** 59), True, False, None,
    "", "A", "Elm", "elm ", " elm", "elm1", "el-m", "abcdefghi", "elm.ann", "elm\n", "~", "x" * 4000,
    [], (), [()], ([],), [None], (None,), (True, False), (0, 0), [0, 0], (0, 0, 0), (0, 0, []), (0, None, ()),
    ["elm", "ann"], ("elm",), ("elm", 1), ("elm", "ann", "bob"), ("elm", None), ("elm", True),
    [["elm", "ann"], ["oak", "bob"]], (["elm", "ann"], ["oak", "bob"]),
    (("elm", "ann", 0),), (0,) * 7, (None,) * 7, ((),) * 7, ([],) * 5, ((),) * 5, (None,) * 5, (0,) * 5, ("elm",) * 7,
    ("open",), ("none",), ("seat", None), ([], 0), (None, ()), (True, (), ()), (("open",), 0, None, ()), ("lay", None),
    nested(20, list), nested(20, tuple), (0,) * 4990, [None] * 4990,
]
