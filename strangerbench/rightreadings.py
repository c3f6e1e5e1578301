"""Rights read from the lines that write them."""

from strangerbench.errors import NoText
from strangerbench.matterkinds import is_of

# What the words of the first line write, and those of each other one.
HEAD = ("count", "count")
ROW = ("hand", "hand", "count", "count", "town", "town", "count", "count", "here")
FIGURES = 60


def rights_read(text):
    """The rights that the text writes."""
    lines = text.split("\n")
    words = lines[0].split(" ")
    things = things_ahead(HEAD, [thing_of(kind, word) for kind, word in zip(HEAD, words)])
    check_whole(0, words, len(HEAD), len(things))
    turn, floor = things
    rows = []
    # Each hand is above these, so the first row may be of any pair.
    ahead = (("", ""), ("", ""))
    for at, line in enumerate(lines[1:], start=1):
        rows.append(row_read(at, line.split(" "), ahead))
        ahead = rows[-1][0]
    return (turn, floor, tuple(rows))


def row_read(line, words, ahead):
    """The row that the words of this line write, behind the row of the pair ahead."""
    things = things_ahead(ROW, [thing_of(kind, word) for kind, word in zip(ROW, words)])
    if things and things[0] < ahead[0]:
        raise NoText(line, 0)
    if len(things) > 1 and (things[1] <= things[0] or (things[0], things[1]) <= ahead):
        raise NoText(line, 1)
    check_whole(line, words, len(ROW), len(things))
    one, other, turn, number, place, giver, rise, free, here = things
    return ((one, other), (turn, number), place, giver, rise, free, here)


def thing_of(kind, word):
    """What the word writes where one of this kind is asked; the word itself where it writes none."""
    if kind == "count":
        return number_of(word)
    if kind == "hand":
        return hand_of(word)
    if kind == "here" and word in ("here", "away"):
        return word == "here"
    return word


def number_of(word):
    """The number that the figures write; the word itself where they write none."""
    if not 1 <= len(word) <= FIGURES or not all(["0" <= sign <= "9" for sign in word]):
        return word
    if word[0] == "0" and len(word) > 1:
        return word
    return int(word)


def hand_of(word):
    """The parts between the dots of the word, which are a hand where it writes one."""
    return tuple(word.split("."))


def things_ahead(kinds, things):
    """Those of the things that stand ahead of the first that isn't of the kind at its place."""
    ahead = []
    for kind, thing in zip(kinds, things):
        if not is_of(kind, thing):
            return ahead
        ahead.append(thing)
    return ahead


def check_whole(line, words, asked, standing):
    """Refuses the line but where it has as many words as are asked, and all of them can stand."""
    # Where a word can't stand, lacks, or is too many, its number is how many stand ahead of it.
    if standing < asked or len(words) > asked:
        raise NoText(line, standing)
