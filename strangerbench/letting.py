"""Letting hands in a matter: what lacks for it, and what is burnt by it."""

from strangerbench.errors import NoMatter
from strangerbench.handpairs import pairs_of
from strangerbench.holdings import burn_bars, burnt
from strangerbench.paths import matter_of, path_voices, root_of


def open_matter(book, name):
    """The matter that is called so, which has to be open."""
    matter = matter_of(book[3], name)
    if matter[6] is not None:
        raise NoMatter("end")
    return matter


def with_matter(book, matter):
    """The book with this matter, in the stead of the one of its name."""
    town, rise, rights, matters, burnings = book
    others = [one for one in matters if one[0] != matter[0]]
    return (town, rise, rights, tuple(sorted(others + [matter])), burnings)


def with_hands(hands, more):
    """All hands of both: a rising tuple."""
    there = {hand: True for hand in hands + more}
    return tuple(sorted(there))


def unburnt(book, name, hands):
    """The pairs that letting these hands in needs, and that aren't burnt for the root."""
    _, _, _, matters, burnings = book
    root = root_of(matters, name)
    paid = {pair: True for pair, burnt_for, _ in burnings if burnt_for == root}
    needed = pairs_of(with_hands(path_voices(matters, name), hands))
    return tuple([pair for pair in needed if pair not in paid])


def first_lack(book, name, hands, day):
    """The first pair that isn't paid, and why; None where all are."""
    town, _, rights, _, _ = book
    for pair in unburnt(book, name, hands):
        why = burn_bars(rights, town, pair, day=day)
        if why is not None:
            return (pair, why)
    return None


def lacks(rule, book, name, hands, *, day):
    """What lacks for letting these hands in the matter."""
    open_matter(book, name)
    return first_lack(book, name, hands, day)


def let_in(rule, book, name, hands, *, day):
    """The book in which these hands are voices of the matter."""
    _, _, _, span = rule
    _, lower, seats, voices, notes, votes, end = open_matter(book, name)
    pairs = unburnt(book, name, hands)
    town, rise, rights, matters, burnings = book
    rights = burnt(rights, town, pairs, day=day, span=span)
    root = root_of(matters, name)
    burnings = tuple(sorted(list(burnings) + [(pair, root, day) for pair in pairs]))
    matter = (name, lower, seats, with_hands(voices, hands), notes, votes, end)
    return with_matter((town, rise, rights, matters, burnings), matter)


def each_alone(rule, book, name, hands, *, day):
    """For each of these hands what lacks for letting in this one alone."""
    open_matter(book, name)
    return tuple([(hand, first_lack(book, name, (hand,), day)) for hand in hands])
