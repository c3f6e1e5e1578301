"""What a town has: its first chest, what is saved of one, and rising with that."""

from strangerbench.errors import NoTown
from strangerbench.matterdeeds import risen
from strangerbench.matterkinds import first_book
from strangerbench.roundings import rounded


def first_chest(rule, town):
    """The chest with which a town of the rule begins."""
    towns, _, _, _ = rule
    if town not in towns:
        raise NoTown(town)
    return (first_book(town), tuple([(one, 0, 0) for one in towns]), None, ())


def saved_of(chest):
    """What is saved of a chest: the book, what was heard, the news."""
    book, heard, _, news = chest
    return (book, heard, news)


def risen_chest(rule, saved, *, rise, day):
    """The chest of a town that rose with what was saved."""
    book, heard, news = saved
    own = (book[0], rise, day)
    heard = tuple([own if told[0] == own[0] else told for told in heard])
    return behind_round(rule, (risen(book, rise=rise), heard, (), news))


def behind_round(rule, chest):
    """The chest of a wary town behind its round, where all others have told; else as it is."""
    book, heard, tells, news = chest
    town, rise, rights, matters, burnings = book
    told = {teller: theirs for teller, theirs, _ in tells}
    told[town] = rights
    if not all([one in told for one, _, _ in heard]):
        return chest
    rights = rounded(town, tuple(sorted(told.items())), heard=heard, span=rule[3])
    return ((town, rise, rights, matters, burnings), heard, None, news)
