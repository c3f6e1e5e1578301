"""Looks by kind, of any thing: words, hands, pairs, rows, rights, heard."""


def is_count(thing):
    """Whether it is a number from 0 on; a truth is none."""
    return type(thing) is int and thing >= 0


def is_tuple_of(thing, many):
    """Whether it is a tuple of so many things."""
    return type(thing) is tuple and len(thing) == many


def rises(keys):
    """Whether each of a list or tuple of like kinds is above the one ahead."""
    return all([one < other for one, other in zip(keys, keys[1:])])


def is_word(thing):
    """Whether it is one to eight small letters."""
    if type(thing) is not str:
        return False
    return 1 <= len(thing) <= 8 and all(["a" <= sign <= "z" for sign in thing])


def is_hand(thing):
    """Whether it is a pair of words, the town first."""
    return is_tuple_of(thing, 2) and is_word(thing[0]) and is_word(thing[1])


def is_pair(thing):
    """Whether it is two hands, the lesser first."""
    return is_tuple_of(thing, 2) and is_hand(thing[0]) and is_hand(thing[1]) and thing[0] < thing[1]


def are_hands(thing):
    """Whether it is a rising tuple of hands, perhaps a void one."""
    return type(thing) is tuple and all([is_hand(hand) for hand in thing]) and rises(thing)


def is_stamp(thing):
    """Whether it is a turn and a number."""
    return is_tuple_of(thing, 2) and is_count(thing[0]) and is_count(thing[1])


def is_row(thing):
    """Whether it is what a town may know of a pair's right."""
    if not is_tuple_of(thing, 7):
        return False
    pair, stamp, place, giver, rise, free, here = thing
    if not (is_pair(pair) and is_stamp(stamp) and is_word(place) and is_word(giver)):
        return False
    return is_count(rise) and is_count(free) and type(here) is bool


def is_rights(thing):
    """Whether it is a turn, a floor and rows that rise by their pairs."""
    if not is_tuple_of(thing, 3):
        return False
    turn, floor, rows = thing
    if not (is_count(turn) and is_count(floor) and type(rows) is tuple):
        return False
    return all([is_row(row) for row in rows]) and rises([row[0] for row in rows])


def is_told_rise(thing):
    """Whether it is a town, how often it rose, and the day of that."""
    return is_tuple_of(thing, 3) and is_word(thing[0]) and is_count(thing[1]) and is_count(thing[2])


def is_heard(thing):
    """Whether it tells rises of one town or more, each once, as they rise."""
    if type(thing) is not tuple or not thing:
        return False
    return all([is_told_rise(told) for told in thing]) and rises([told[0] for told in thing])
