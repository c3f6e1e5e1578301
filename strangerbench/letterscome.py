"""The coming of a letter: what the town has behind it, the word for it, and what it sends."""

from strangerbench.chests import behind_round
from strangerbench.giving import taken
from strangerbench.hearing import heard_together


def came(rule, chest, letter):
    """The chest behind the coming of the letter, the word for what came of it, and the letters sent."""
    word = letter[0]
    if word == "give":
        return give_came(chest, letter)
    if word == "note":
        book, heard, tells, news = chest
        return ((book, heard, tells, news + (letter[3],)), "news", ())
    if word == "ask":
        return ask_came(chest, letter)
    return tell_came(rule, chest, letter)


def give_came(chest, letter):
    """A right is taken where the town isn't wary, and the letter isn't late."""
    book, heard, tells, news = chest
    town, rise, rights, matters, burnings = book
    behind = taken(rights, town, letter, heard=heard)
    # A right that is taken has a greater stamp than ahead, so the rights are never the same then.
    if tells is not None or behind == rights:
        return (chest, "nothing", ())
    return (((town, rise, behind, matters, burnings), heard, tells, news), "taken", ())


def ask_came(chest, letter):
    """Whoever asks is heard, and told."""
    _, asker, town, asked = letter
    chest = with_heard(chest, asked)
    book, heard, _, _ = chest
    return (chest, "told", (("tell", town, asker, book[2], heard),))


def tell_came(rule, chest, letter):
    """Whoever tells is heard; the tell counts where both have heard the same then."""
    _, teller, _, rights, told = letter
    book, heard, tells, news = with_heard(chest, told)
    same = (book, heard, tells, news)
    if tells is None:
        return (same, "nothing", ())
    if told != heard:
        return (same, "late", ())
    if teller in [one for one, _, _ in tells]:
        return (same, "twice", ())
    tells = tuple(sorted(tells + ((teller, rights, told),)))
    behind = behind_round(rule, (book, heard, tells, news))
    return (behind, "counts" if behind[2] is not None else "sure", ())


def with_heard(chest, told):
    """The chest that has heard this, too; its tells are dropped where that taught it anything."""
    book, heard, tells, news = chest
    both = heard_together(heard, told)
    if both != heard and tells is not None:
        tells = ()
    return (book, both, tells, news)
