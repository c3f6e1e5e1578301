"""Acts at a chest: what a town has behind one, what it tells, and the letters that it sends."""

from strangerbench.errors import NoDeed, NoName, NoTown
from strangerbench.giving import given_to, letter_of
from strangerbench.notes import note_of
from strangerbench.townrows import done

# What a town may do that doesn't know yet which rights are its own.
WARY_ACTS = ("leave", "vote", "lay", "note", "ask")


def acted(rule, chest, act, *, day):
    """The chest behind the act, what is told, and the letters sent."""
    word = act[0]
    if chest[2] is not None and word not in WARY_ACTS:
        raise NoDeed("wary")
    if word == "note":
        return note_sent(rule, chest, act)
    if word == "give":
        return right_given(rule, chest, act)
    if word == "send":
        book = chest[0]
        return (chest, None, (letter_of(book[2], book[0], act[1]),))
    if word == "ask":
        return all_asked(chest)
    book, heard, tells, news = chest
    behind, told = done(rule, book, deed_of(chest, act, day))
    return ((behind, heard, tells, news), told, ())


def deed_of(chest, act, day):
    """The deed at the book that the act comes to."""
    word = act[0]
    if word == "open" or word == "seat":
        _, where, who = act
        return (word, day, where, who)
    if word == "read":
        _, name, other = act
        return ("note", day, name, known_note(chest, other))
    return act


def known_note(chest, name):
    """The note of a matter of its own, else the last one of that name among the news."""
    book, _, _, news = chest
    if name in [matter[0] for matter in book[3]]:
        return note_of(book[3], name)
    for note in reversed(news):
        if note[0] == name:
            return note
    raise NoName(name)


def check_other(rule, chest, to):
    """Refuses what is no other town of the rule."""
    if to not in rule[0] or to == chest[0][0]:
        raise NoTown(to)


def note_sent(rule, chest, act):
    """The note of a matter of its own goes to another town."""
    _, name, to = act
    check_other(rule, chest, to)
    book = chest[0]
    return (chest, None, (("note", book[0], to, note_of(book[3], name)),))


def right_given(rule, chest, act):
    """The right of a pair goes to another town."""
    _, pair, to = act
    check_other(rule, chest, to)
    book, heard, tells, news = chest
    town, rise, rights, matters, burnings = book
    rights, letter = given_to(rights, town, pair, to, rise=rise)
    return (((town, rise, rights, matters, burnings), heard, tells, news), None, (letter,))


def all_asked(chest):
    """A wary town asks all others."""
    book, heard, tells, _ = chest
    if tells is None:
        raise NoDeed("sure")
    town = book[0]
    return (chest, None, tuple([("ask", town, other, heard) for other, _, _ in heard if other != town]))
