"""Which roots told hands sway within one span, and from which day the most."""


def days_behind(burnings, span):
    """Of each root that can lie behind a day the first and the last such day."""
    days = {}
    for _, root, day in burnings:
        days.setdefault(root, []).append(day)
    # All days have to be below the day and span, so an early root lies behind day 0, too.
    return {
        root: (max(0, max(told) - span + 1), min(told))
        for root, told in days.items()
        if max(told) - min(told) < span
    }


def held_by(rule, table, hands):
    """The roots of the table with as many of the hands as are needed, or more, rising."""
    _, _, needed, _ = rule
    asked = {hand: True for hand in hands}
    held = {}
    for root, voices in table:
        if len([hand for hand in voices if hand in asked]) >= needed:
            held[root] = True
    return sorted(held)


def swayed(rule, table, burnings, hands, *, day):
    """The roots that the hands sway from the day: a rising tuple."""
    behind = days_behind(burnings, rule[3])
    held = held_by(rule, table, hands)
    return tuple([root for root in held if root in behind and behind[root][0] <= day <= behind[root][1]])


def most_of(rule, table, burnings, hands):
    """The most roots that the hands sway from any day, and the least such day."""
    return most_behind(days_behind(burnings, rule[3]), held_by(rule, table, hands))


def most_behind(behind, held):
    """The most of these roots that lie behind one day, and the least such day."""
    days = [behind[root] for root in held if root in behind]
    best = (0, 0)
    # Only where a root begins to lie behind the day there can be more than ahead of it.
    for start in sorted([first for first, _ in days]):
        many = len([first for first, last in days if first <= start <= last])
        if many > best[0]:
            best = (many, start)
    return best
