"""Rows and logs read from the lines that write them."""

from strangerbench.errors import NoText
from strangerbench.letterkinds import ACTS
from strangerbench.rightreadings import check_whole, hand_of, number_of, things_ahead
from strangerbench.worldlogs import is_rule, kinds_behind


def read_row(text):
    """The row that the line writes."""
    return row_on(0, text)


def read_log(lines):
    """The log that the lines write."""
    if not lines:
        raise NoText(0, 0)
    return (world_on(lines[0]),) + tuple([row_on(at, line) for at, line in enumerate(lines) if at > 0])


def row_on(at, line):
    """The row that the line of this number writes."""
    words = line.split(" ")
    word, *behind = words
    kinds = kinds_behind(word)
    if kinds is None:
        raise NoText(at, 0)
    things = things_behind(kinds, behind)
    check_whole(at, words, 1 + len(kinds), 1 + len(things))
    if word in ACTS:
        town, *rest = things
        return ("act", town, (word, *rest))
    return (word, *things)


def things_behind(kinds, words):
    """The things that the words write, up to the first that writes none of the kind at its place."""
    return things_ahead(kinds, [thing_in(kind, word) for kind, word in zip(kinds, words)])


def thing_in(kind, word):
    """What the word writes where one of this kind is asked; the word itself where it writes none."""
    if word == "-" and kind in ("lower", "saved"):
        return None
    if kind == "count":
        return number_of(word)
    if kind == "number" or kind == "saved":
        return signed_of(word)
    if kind == "name" or kind == "lower":
        return name_of(word)
    if kind == "hand":
        return hand_of(word)
    if kind == "hands":
        return hands_of(word)
    if kind == "pair":
        return tuple([hand_of(part) for part in word.split("+")])
    return word


def signed_of(word):
    """The number that the word writes, perhaps one below 0; the word itself where it writes none."""
    if not word.startswith("-"):
        return number_of(word)
    below = number_of(word[1:])
    if type(below) is not int or below == 0:
        return word
    return -below


def name_of(word):
    """The name that the word writes; what is none where it writes none."""
    parts = word.split(".")
    return tuple(parts[:1] + [number_of(part) for part in parts[1:]])


def hands_of(word):
    """The hands that the word writes, perhaps none."""
    if word == "-":
        return ()
    return tuple([hand_of(part) for part in word.split(",")])


def world_on(line):
    """The head of a log that the line writes."""
    words = line.split(" ")
    word, *behind = words
    if word != "world":
        raise NoText(0, 0)
    things = [tuple(one.split(",")) if at == 0 else number_of(one) for at, one in enumerate(behind)]
    standing = 1
    while standing <= len(things) and may_begin(things[:standing]):
        standing += 1
    check_whole(0, words, 5, standing)
    return ("world", tuple(things))


def may_begin(things):
    """Whether a rule may begin with these things."""
    if len(things) == 2:
        # As many needed as there are seats, which is right for any seats.
        things = things + things[1:]
    return is_rule(tuple(things + [2, 2, 1][len(things) - 1:]))
