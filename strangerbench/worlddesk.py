"""A desk with a world, at which rows of text are said."""

from strangerbench.errors import NoRow, NoText
from strangerbench.letting import lacks
from strangerbench.rightreadings import check_whole
from strangerbench.worldreadings import read_log, read_row, things_behind
from strangerbench.worlds import World
from strangerbench.worldtexts import deed_line, name_word, pair_word

# Of each word that a desk alone knows what stands behind it.
LOOKS = {
    "undo": (),
    "now": (),
    "count": (),
    "log": (),
    "wary": (),
    "mail": (),
    "matters": ("town",),
    "lacks": ("town", "name", "hands"),
    "truth": (),
}


class Desk:
    """A desk has one world at a time, at first none."""

    def __init__(self):
        self._world = None

    def say(self, row):
        """Does what the row says; told is a text."""
        word, things = said(row)
        if word == "world":
            self._world = World(things)
            return "ok"
        if self._world is None:
            raise NoRow(row)
        if word == "deed":
            return told_word(self._world.do_row(things))
        if word == "undo":
            return deed_line(self._world.undo())
        return look(self._world, word, things)


def said(row):
    """What the row is: a world and its rule, a deed and its row, else its word and the things behind it."""
    words = row.split(" ")
    word = words[0]
    try:
        if word == "world":
            return (word, read_log([row])[0][1])
        if word in LOOKS:
            kinds = LOOKS[word]
            things = things_behind(kinds, words[1:])
            check_whole(0, words, 1 + len(kinds), 1 + len(things))
            return (word, things)
        return ("deed", read_row(row))
    except NoText:
        raise NoRow(row) from None


def told_word(told):
    """The text for what a deed tells."""
    if told is None:
        return "ok"
    if type(told) is tuple:
        return name_word(told)
    return str(told)


def look(world, word, things):
    """The text for what is asked of the world."""
    if word == "now":
        return str(world.day_now())
    if word == "count":
        return str(len(world))
    if word == "log":
        return str(world)
    if word == "mail":
        return str(len(world.mail()))
    if word == "wary":
        return " ".join([town for town in rule_of(world)[0] if world.is_wary(town)]) or "-"
    if word == "matters":
        return names_in(world, *things)
    if word == "lacks":
        return lack_in(world, *things)
    return truth_of(world)


def rule_of(world):
    """The rule of the world."""
    return world.log()[0][1]


def names_in(world, town):
    """The names of the matters of the town."""
    matters = world.chest_of(town)[0][3]
    return " ".join([name_word(matter[0]) for matter in matters]) or "-"


def lack_in(world, town, name, hands):
    """The pair that isn't paid, where one lacks for letting the hands in, and why."""
    lack = lacks(rule_of(world), world.chest_of(town)[0], name, hands, day=world.day_now())
    if lack is None:
        return "-"
    pair, why = lack
    return f"{pair_word(pair)} {why}"


def truth_of(world):
    """All burnings that were ever done."""
    lines = [f"{pair_word(pair)} {name_word(name)} {day}" for pair, name, day in world.burnings_ever()]
    return " / ".join(lines) or "-"
