"""Looks by kind, of any thing: names, notes, matters, burnings, books, rows that begin with a word; the first book."""

from strangerbench.rightkinds import are_hands, is_count, is_hand, is_heard, is_pair, is_rights
from strangerbench.rightkinds import is_row, is_tuple_of, is_word, rises

VERDICTS = ("yes", "no")
ENDS = ("yes", "no", "laid", "broken")


def is_name(thing):
    """Whether it may be the name of a matter."""
    return is_tuple_of(thing, 3) and is_word(thing[0]) and is_count(thing[1]) and is_count(thing[2])


def is_note(thing):
    """Whether it is a name, voices and a verdict."""
    if not is_tuple_of(thing, 3):
        return False
    name, voices, verdict = thing
    return is_name(name) and are_hands(voices) and verdict in VERDICTS


def are_notes(thing):
    """Whether it is a rising tuple of notes; names may be like, notes not."""
    return type(thing) is tuple and all([is_note(note) for note in thing]) and rises(thing)


def is_vote(thing):
    """Whether it is a hand and a verdict."""
    return is_tuple_of(thing, 2) and is_hand(thing[0]) and thing[1] in VERDICTS


def are_votes(thing):
    """Whether it is a rising tuple of votes, each hand once."""
    if type(thing) is not tuple or not all([is_vote(vote) for vote in thing]):
        return False
    return rises([hand for hand, _ in thing])


def is_matter(thing):
    """Whether it has the seven parts of a matter."""
    if not is_tuple_of(thing, 7):
        return False
    name, lower, seats, voices, notes, votes, end = thing
    if not (is_name(name) and (lower is None or is_name(lower))):
        return False
    if not (are_hands(seats) and are_hands(voices)):
        return False
    return are_notes(notes) and are_votes(votes) and (end is None or end in ENDS)


def are_matters(thing):
    """Whether it is a tuple of matters that rise by their names."""
    if type(thing) is not tuple or not all([is_matter(matter) for matter in thing]):
        return False
    return rises([matter[0] for matter in thing])


def is_burning(thing):
    """Whether it is a pair, a root and a day."""
    return is_tuple_of(thing, 3) and is_pair(thing[0]) and is_name(thing[1]) and is_count(thing[2])


def are_burnings(thing):
    """Whether it is a rising tuple of burnings."""
    return type(thing) is tuple and all([is_burning(burning) for burning in thing]) and rises(thing)


def is_book(thing):
    """Whether it has the five parts of a book."""
    if not is_tuple_of(thing, 5):
        return False
    town, rise, rights, matters, burnings = thing
    if not (is_word(town) and is_count(rise) and is_rights(rights)):
        return False
    return are_matters(matters) and are_burnings(burnings)


def first_book(town):
    """The book with which a town begins."""
    return (town, 0, (0, 0, ()), (), ())


def word_of(thing):
    """The text with which a tuple begins; the void text of any other thing."""
    if type(thing) is tuple and thing and type(thing[0]) is str:
        return thing[0]
    return ""


def are_of(kinds, things):
    """Whether there are as many things as kinds, each of the kind at its place."""
    return len(things) == len(kinds) and all([is_of(kind, thing) for kind, thing in zip(kinds, things)])


def is_of(kind, thing):
    """Whether the thing is of the kind that is called so."""
    if kind == "count":
        return is_count(thing)
    if kind == "number":
        return type(thing) is int
    if kind == "saved":
        return thing is None or type(thing) is int
    if kind == "here":
        return type(thing) is bool
    if kind == "town":
        return is_word(thing)
    if kind == "hand":
        return is_hand(thing)
    if kind == "hands":
        return are_hands(thing)
    if kind == "pair":
        return is_pair(thing)
    if kind == "row":
        return is_row(thing)
    if kind == "rights":
        return is_rights(thing)
    if kind == "heard":
        return is_heard(thing)
    if kind == "name":
        return is_name(thing)
    if kind == "lower":
        return thing is None or is_name(thing)
    if kind == "note":
        return is_note(thing)
    return kind == "verdict" and thing in VERDICTS
