"""Any thing looked at as a book that holds together."""

from strangerbench.errors import NoPaper
from strangerbench.handpairs import pairs_of
from strangerbench.holdings import row_of
from strangerbench.matterkinds import VERDICTS, is_book
from strangerbench.paths import path_voices, root_of


def lets_book(rule, thing):
    """True of a book that holds together, else the first that is wrong is refused."""
    if not is_book(thing):
        raise NoPaper("shape", -1)
    towns, _, _, span = rule
    town, _, _, matters, burnings = thing
    if town not in towns:
        raise NoPaper("town", -1)
    burnt_for = {(pair, root): True for pair, root, _ in burnings}
    for at in range(len(matters)):
        check_matter(rule, thing, at, burnt_for)
    paths = [(root_of(matters, matter[0]), path_voices(matters, matter[0])) for matter in matters]
    for at in range(len(burnings)):
        check_burning(thing, at, span, paths)
    return True


def check_matter(rule, book, at, burnt_for):
    """Refuses the first that is wrong with the matter at this place."""
    if not is_named_right(book, at):
        raise NoPaper("name", at)
    if not is_lower_right(book, at):
        raise NoPaper("lower", at)
    check_inside(rule, book[3][at], at)
    # The lower ones stand ahead and were looked at, so the path has an end.
    matters = book[3]
    name = matters[at][0]
    root = root_of(matters, name)
    for pair in pairs_of(path_voices(matters, name)):
        if (pair, root) not in burnt_for:
            raise NoPaper("paid", at)


def is_named_right(book, at):
    """Whether the matter is of this book's town, of a rise that was, and counted on."""
    own_town, own_rise, _, matters, _ = book
    town, rise, number = matters[at][0]
    ahead = len([matter for matter in matters[:at] if matter[0][1] == rise])
    return town == own_town and rise <= own_rise and number == ahead


def is_lower_right(book, at):
    """Whether there is no lower one, or one ahead that has a verdict."""
    matters = book[3]
    lower = matters[at][1]
    if lower is None:
        return True
    return lower in [matter[0] for matter in matters[:at] if matter[6] in VERDICTS]


def check_inside(rule, matter, at):
    """Refuses what is wrong within the matter itself."""
    _, most, needed, _ = rule
    _, _, seats, voices, notes, votes, end = matter
    heard = {hand: True for hand in voices}
    if len(seats) > most or not all([hand in heard for hand in seats]):
        raise NoPaper("seats", at)
    if not all([hand in heard for _, told, _ in notes for hand in told]):
        raise NoPaper("notes", at)
    if not all([hand in seats for hand, _ in votes]):
        raise NoPaper("votes", at)
    for verdict in VERDICTS:
        many = len([hand for hand, told in votes if told == verdict])
        if (end == verdict) != (many >= needed):
            raise NoPaper("end", at)


def check_burning(book, at, span, paths):
    """Refuses the first that is wrong with the burning at this place."""
    town, _, rights, _, burnings = book
    pair, root, day = burnings[at]
    one, other = pair
    if not any([one in voices and other in voices for told, voices in paths if told == root]):
        raise NoPaper("burning", at)
    days = [day_then for told, _, day_then in burnings[:at] + burnings[at + 1:] if told == pair]
    if any([abs(day - day_then) < span for day_then in days]):
        raise NoPaper("span", at)
    if row_of(rights, town, pair)[5] < day + span:
        raise NoPaper("free", at)
