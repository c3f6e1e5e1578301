"""Deeds at a book: opening, seating, leaving, voting, laying down, rising."""

from strangerbench.errors import NoHand, NoMatter
from strangerbench.letting import let_in, open_matter, with_hands, with_matter
from strangerbench.matterkinds import VERDICTS


def next_name(book):
    """The name of the matter that is opened next."""
    town, rise, _, matters, _ = book
    return (town, rise, len([matter for matter in matters if matter[0][1] == rise]))


def opened(rule, book, hands, *, day, lower=None):
    """The book with a matter more, these hands at its seats and let in."""
    with_verdict = [matter[0] for matter in book[3] if matter[6] in VERDICTS]
    if lower is not None and lower not in with_verdict:
        raise NoMatter("lower")
    if len(hands) > rule[1]:
        raise NoMatter("full")
    name = next_name(book)
    bare = with_matter(book, (name, lower, hands, (), (), (), None))
    return let_in(rule, bare, name, hands, day=day)


def seated(rule, book, name, hand, *, day):
    """The book in which the hand has a seat in the matter and is let in."""
    _, lower, seats, voices, notes, votes, end = open_matter(book, name)
    if hand in seats:
        raise NoMatter("there")
    if len(seats) >= rule[1]:
        raise NoMatter("full")
    matter = (name, lower, with_hands(seats, (hand,)), voices, notes, votes, end)
    return let_in(rule, with_matter(book, matter), name, (hand,), day=day)


def matter_of_sitter(book, name, hand):
    """The open matter that is called so, in which the hand has to have a seat."""
    matter = open_matter(book, name)
    if hand not in matter[2]:
        raise NoHand(hand)
    return matter


def left(book, name, hand):
    """The book in which the hand has no seat and no vote in the matter."""
    _, lower, seats, voices, notes, votes, end = matter_of_sitter(book, name, hand)
    seats = tuple([sitter for sitter in seats if sitter != hand])
    votes = tuple([vote for vote in votes if vote[0] != hand])
    return with_matter(book, (name, lower, seats, voices, notes, votes, end))


def voted(rule, book, name, hand, *, verdict="yes"):
    """The book with this vote of the hand, and the end, where enough are alike."""
    _, lower, seats, voices, notes, votes, end = matter_of_sitter(book, name, hand)
    others = [vote for vote in votes if vote[0] != hand]
    votes = tuple(sorted(others + [(hand, verdict)]))
    if len([told for _, told in votes if told == verdict]) >= rule[2]:
        end = verdict
    return with_matter(book, (name, lower, seats, voices, notes, votes, end))


def laid(book, name):
    """The book in which the matter is laid down."""
    return with_matter(book, with_end(open_matter(book, name), "laid"))


def with_end(matter, end):
    """The matter with this end."""
    name, lower, seats, voices, notes, votes, _ = matter
    return (name, lower, seats, voices, notes, votes, end)


def risen(book, *, rise):
    """The book of a greater rise, in which what was open is broken."""
    town, _, rights, matters, burnings = book
    ended = [with_end(matter, "broken") if matter[6] is None else matter for matter in matters]
    return (town, rise, rights, tuple(ended), burnings)
