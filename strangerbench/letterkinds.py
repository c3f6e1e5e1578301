"""Looks by kind, of any thing: letters, chests, acts."""

from strangerbench.matterkinds import are_of, is_book, is_note, word_of
from strangerbench.rightkinds import is_heard, is_rights, is_tuple_of, is_word, rises

# Of each word what stands behind it.
LETTERS = {
    "give": ("town", "town", "row"),
    "note": ("town", "town", "note"),
    "ask": ("town", "town", "heard"),
    "tell": ("town", "town", "rights", "heard"),
}
ACTS = {
    "open": ("lower", "hands"),
    "seat": ("name", "hand"),
    "leave": ("name", "hand"),
    "vote": ("name", "hand", "verdict"),
    "lay": ("name",),
    "read": ("name", "name"),
    "note": ("name", "town"),
    "give": ("pair", "town"),
    "send": ("pair",),
    "ask": (),
}


def is_letter(thing):
    """Whether it is a letter from one town to an unlike one."""
    kinds = LETTERS.get(word_of(thing))
    return kinds is not None and are_of(kinds, thing[1:]) and thing[1] != thing[2]


def is_act(thing):
    """Whether it is an act."""
    kinds = ACTS.get(word_of(thing))
    return kinds is not None and are_of(kinds, thing[1:])


def is_tell(thing):
    """Whether it is a town, its rights and what it had heard."""
    return is_tuple_of(thing, 3) and is_word(thing[0]) and is_rights(thing[1]) and is_heard(thing[2])


def are_tells(thing):
    """Whether it is a tuple of what towns told that rises by these towns."""
    if type(thing) is not tuple or not all([is_tell(tell) for tell in thing]):
        return False
    return rises([tell[0] for tell in thing])


def is_chest(thing):
    """Whether it has the four parts of a chest."""
    if not is_tuple_of(thing, 4):
        return False
    book, heard, tells, news = thing
    if not (is_book(book) and is_heard(heard) and (tells is None or are_tells(tells))):
        return False
    return type(news) is tuple and all([is_note(note) for note in news])
