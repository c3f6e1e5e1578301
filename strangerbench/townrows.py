"""Deeds as rows: whether a thing is one, and doing one or several at a book."""

from strangerbench.matterdeeds import laid, left, next_name, opened, seated, voted
from strangerbench.matterkinds import are_of, word_of
from strangerbench.notes import read
from strangerbench.paths import matter_of

# Of each word what stands behind it.
DEEDS = {
    "open": ("count", "lower", "hands"),
    "seat": ("count", "name", "hand"),
    "note": ("count", "name", "note"),
    "leave": ("name", "hand"),
    "vote": ("name", "hand", "verdict"),
    "lay": ("name",),
}


def is_deed(thing):
    """Whether it is a deed, by kind."""
    kinds = DEEDS.get(word_of(thing))
    return kinds is not None and are_of(kinds, thing[1:])


def done(rule, book, deed):
    """The book behind the deed, and what it tells: the name of what was opened, else the end or None."""
    word = deed[0]
    if word == "open":
        _, day, lower, hands = deed
        return (opened(rule, book, hands, day=day, lower=lower), next_name(book))
    if word == "seat":
        _, day, name, hand = deed
        behind = seated(rule, book, name, hand, day=day)
    elif word == "note":
        _, day, name, note = deed
        behind = read(rule, book, name, note, day=day)
    elif word == "leave":
        _, name, hand = deed
        behind = left(book, name, hand)
    elif word == "vote":
        _, name, hand, verdict = deed
        behind = voted(rule, book, name, hand, verdict=verdict)
    else:
        _, name = deed
        behind = laid(book, name)
    return (behind, matter_of(behind[3], name)[6])


def all_done(rule, book, deeds):
    """The book behind all these deeds, and a tuple of what each told."""
    told = []
    for deed in deeds:
        book, word = done(rule, book, deed)
        told.append(word)
    return (book, tuple(told))
