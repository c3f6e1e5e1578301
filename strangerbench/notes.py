"""Notes: telling what a matter came to, and reading such a note in another matter."""

from strangerbench.errors import NoMatter
from strangerbench.letting import let_in, open_matter, with_matter
from strangerbench.matterkinds import VERDICTS
from strangerbench.paths import matter_of, path_of, path_voices
from strangerbench.standing import standing


def note_of(matters, name):
    """The note of a matter that has a verdict of its own."""
    if matter_of(matters, name)[6] not in VERDICTS:
        raise NoMatter("verdict")
    return (name, path_voices(matters, name), standing(matters, name))


def read(rule, book, name, note, *, day):
    """The book in which the note was read in the matter, its voices let in."""
    _, lower, seats, voices, notes, votes, end = open_matter(book, name)
    if note[0] in path_of(book[3], name):
        raise NoMatter("path")
    if note[0] in [told[0] for told in notes]:
        raise NoMatter("read")
    matter = (name, lower, seats, voices, tuple(sorted(notes + (note,))), votes, end)
    return let_in(rule, with_matter(book, matter), name, note[1], day=day)
