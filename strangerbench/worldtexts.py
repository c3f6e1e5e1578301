"""Rows and logs written as lines."""

from strangerbench.righttexts import hand_word
from strangerbench.worldlogs import kinds_behind


def deed_line(row):
    """The line that writes a row."""
    word, things = row[0], row[1:]
    if word == "act":
        town, act = things
        word, things = act[0], (town,) + act[1:]
    kinds = kinds_behind(word)
    return " ".join([word] + [thing_word(kind, thing) for kind, thing in zip(kinds, things)])


def log_lines(log):
    """The lines that write a log, that of its rule first."""
    _, (towns, seats, needed, span) = log[0]
    names = ",".join(towns)
    return [f"world {names} {seats} {needed} {span}"] + [deed_line(row) for row in log[1:]]


def thing_word(kind, thing):
    """The word that writes a thing of the kind."""
    if thing is None:
        return "-"
    if kind == "hand":
        return hand_word(thing)
    if kind == "hands":
        return hands_word(thing)
    if kind == "pair":
        return pair_word(thing)
    if kind == "name" or kind == "lower":
        return name_word(thing)
    return str(thing)


def hands_word(hands):
    """The word that writes hands, perhaps none."""
    return ",".join([hand_word(hand) for hand in hands]) or "-"


def pair_word(pair):
    """The word that writes a pair."""
    return "+".join([hand_word(hand) for hand in pair])


def name_word(name):
    """The word that writes the name of a matter."""
    town, rise, number = name
    return f"{town}.{rise}.{number}"
