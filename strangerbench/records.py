"""What is told by the deeds of a record alone, whatever rights there were."""

from strangerbench.handpairs import pairs_of
from strangerbench.letting import with_hands
from strangerbench.paths import matter_of, path_voices, root_of


def names_told(record):
    """The names of the matters that the record opens: a rising tuple."""
    matters, _ = behind(record)
    return tuple([matter[0] for matter in matters])


def voices_told(record, name):
    """The voices of the path of a matter of the record: a rising tuple."""
    matters, _ = behind(record)
    return path_voices(matters, name)


def votes_told(record, name):
    """The votes of a matter of the record: a rising tuple."""
    matters, _ = behind(record)
    return matter_of(matters, name)[5]


def burnings_told(record):
    """The burnings that the deeds of the record need."""
    _, days = behind(record)
    return tuple(sorted([(pair, root, day) for (pair, root), day in days.items()]))


def bar_told(record, name, hands, *, day, span):
    """The first pair that is burnt too late for letting the hands in, and from when on it is free; else None."""
    matters, days = behind(record)
    root = root_of(matters, name)
    last = {}
    for (pair, _), day_then in days.items():
        last[pair] = max(day_then, last.get(pair, 0))
    for pair in pairs_of(with_hands(path_voices(matters, name), hands)):
        if (pair, root) not in days and pair in last and last[pair] + span > day:
            return (pair, last[pair] + span)
    return None


def behind(record):
    """The matters behind all deeds, but for seats, notes, ends; of each pair and root the day of its burning."""
    town, rise, deeds = record
    matters, days = [], {}
    for deed in deeds:
        word = deed[0]
        if word == "open":
            _, day, lower, hands = deed
            name = (town, rise, len(matters))
            matters.append((name, lower, (), (), (), (), None))
            come_in(matters, days, name, hands, day)
        elif word == "seat":
            _, day, name, hand = deed
            come_in(matters, days, name, (hand,), day)
        elif word == "note":
            _, day, name, note = deed
            come_in(matters, days, name, note[1], day)
        elif word == "leave":
            _, name, hand = deed
            cast(matters, name, hand, [])
        elif word == "vote":
            _, name, hand, verdict = deed
            cast(matters, name, hand, [(hand, verdict)])
    return (tuple(matters), days)


def come_in(matters, days, name, hands, day):
    """The hands are voices of the matter; each pair of its path that wasn't burnt for the root is burnt."""
    _, lower, seats, voices, notes, votes, end = matters[name[2]]
    matters[name[2]] = (name, lower, seats, with_hands(voices, hands), notes, votes, end)
    root = root_of(matters, name)
    for pair in pairs_of(path_voices(matters, name)):
        days.setdefault((pair, root), day)


def cast(matters, name, hand, own):
    """The hand has these votes in the matter, one or none."""
    _, lower, seats, voices, notes, votes, end = matters[name[2]]
    others = [vote for vote in votes if vote[0] != hand]
    matters[name[2]] = (name, lower, seats, voices, notes, tuple(sorted(others + own)), end)
