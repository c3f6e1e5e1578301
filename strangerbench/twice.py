"""A paper that tells two burnings of one right that are too near, or that none are."""


def twice_paper(rule, burnings):
    """Two burnings of one pair less than a span apart, where there are any, else all days of each pair."""
    span = rule[3]
    burnt = burnt_by_pair(burnings)
    for told in burnt.values():
        rising = sorted([(burning[2], burning) for burning in told])
        for (day, one), (later, other) in zip(rising, rising[1:]):
            if later - day < span:
                return ("twice", min(one, other), max(one, other))
    return ("apart", tuple([(pair, days_of(burnt[pair])) for pair in sorted(burnt)]))


def burnt_by_pair(burnings):
    """Of each pair of a burning all its burnings, a list."""
    burnt = {}
    for burning in burnings:
        burnt.setdefault(burning[0], []).append(burning)
    return burnt


def days_of(burnings):
    """The days of the burnings, one as often as there are burnings on it, as they rise."""
    return tuple(sorted([day for _, _, day in burnings]))
