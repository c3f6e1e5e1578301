"""Any thing looked at as a paper that tells that a matter is shaken, or that it is firm."""

from strangerbench.errors import NoPaper
from strangerbench.matterkinds import is_name, is_note, word_of
from strangerbench.paths import matter_of
from strangerbench.resting import all_known, is_turned
from strangerbench.rightkinds import is_tuple_of


def lets_shaken(matters, name, thing, *, news=()):
    """The word of a paper that is right, else the first that is wrong is refused."""
    matter_of(matters, name)
    if not is_paper(thing):
        raise NoPaper("shape", -1)
    known = all_known(matters, news)
    notes_of = {matter[0]: matter[4] for matter in matters}
    if thing[0] == "shaken":
        check_shaken(notes_of, name, thing, known)
    else:
        check_firm(notes_of, name, thing[1], known)
    return thing[0]


def is_paper(thing):
    """Whether it is a row and a note, or names, by kind."""
    word = word_of(thing)
    if word == "shaken":
        return is_tuple_of(thing, 3) and type(thing[1]) is tuple and is_note(thing[2])
    return word == "firm" and is_tuple_of(thing, 2) and type(thing[1]) is tuple


def check_shaken(notes_of, name, thing, known):
    """Refuses a row that doesn't go from note to note to one that turned."""
    _, row, note = thing
    if not row or not is_name(row[0]) or row[0] != name:
        raise NoPaper("first", -1)
    for at in range(1, len(row)):
        if not is_name(row[at]) or row[at] not in notes_of:
            raise NoPaper("name", at)
        if row[at] not in [read[0] for read in notes_of[row[at - 1]]]:
            raise NoPaper("name", at)
    if note not in notes_of[row[-1]]:
        raise NoPaper("note", -1)
    if not is_turned(note, known):
        raise NoPaper("turned", -1)


def check_firm(notes_of, name, names, known):
    """Refuses names that don't rise, among which some note turned, or one that was read lacks."""
    for at, one in enumerate(names):
        if not is_name(one) or one not in notes_of or (at > 0 and one <= names[at - 1]):
            raise NoPaper("name", at)
    if name not in names:
        raise NoPaper("first", -1)
    for at, one in enumerate(names):
        for place, note in enumerate(notes_of[one]):
            if is_turned(note, known):
                raise NoPaper("turned", (at, place))
            if note[0] in notes_of and note[0] not in names:
                raise NoPaper("rests", (at, place))
