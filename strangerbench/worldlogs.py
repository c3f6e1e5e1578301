"""Looks by kind, of any thing: rules, rows of a world, logs."""

from strangerbench.letterkinds import ACTS, is_act
from strangerbench.matterkinds import are_of, word_of
from strangerbench.rightkinds import is_count, is_tuple_of, is_word, rises

# Of each word of a row but "act" what stands behind it.
STEPS = {
    "day": ("count",),
    "come": ("number",),
    "save": ("town",),
    "rise": ("town", "saved"),
}


def is_log(thing):
    """Whether it is a world of a rule and rows."""
    if type(thing) is not tuple or not thing:
        return False
    return is_world(thing[0]) and all([is_step(row) for row in thing[1:]])


def is_world(thing):
    """Whether it is the head of a log."""
    return word_of(thing) == "world" and len(thing) == 2 and is_rule(thing[1])


def is_rule(thing):
    """Whether it is towns, seats, how many alike are needed, and a span."""
    if not is_tuple_of(thing, 4) or not all([is_count(number) for number in thing[1:]]):
        return False
    towns, seats, needed, span = thing
    return are_towns(towns) and 2 <= seats <= 5 and needed <= seats < 2 * needed and span > 0


def are_towns(thing):
    """Whether it is a rising tuple of words, one at least."""
    if type(thing) is not tuple or not thing:
        return False
    return all([is_word(town) for town in thing]) and rises(thing)


def is_step(thing):
    """Whether it is a row by kind."""
    word = word_of(thing)
    if word == "act":
        return len(thing) == 3 and is_word(thing[1]) and is_act(thing[2])
    kinds = STEPS.get(word)
    return kinds is not None and are_of(kinds, thing[1:])


def kinds_behind(word):
    """What stands behind the word with which a row's line begins; None of a word that begins none."""
    if word in ACTS:
        return ("town",) + ACTS[word]
    return STEPS.get(word)
