"""Any thing looked at as a row of names from which a hand's voice comes."""

from strangerbench.errors import NoPaper
from strangerbench.matterkinds import is_name
from strangerbench.paths import matter_of
from strangerbench.sources import all_behind, end_of


def lets_source(matters, name, hand, thing):
    """By which word a right source ends, else the first that is wrong is refused."""
    matter_of(matters, name)
    if type(thing) is not tuple or not thing:
        raise NoPaper("shape", -1)
    if not is_name(thing[0]) or thing[0] != name:
        raise NoPaper("first", -1)
    for at in range(1, len(thing)):
        if not is_name(thing[at]) or thing[at] not in all_behind(matters, thing[at - 1], hand):
            raise NoPaper("name", at)
    word = end_of(matters, thing[-1], hand)
    if word is None:
        raise NoPaper("last", -1)
    return word
