"""What verdicts stand, by appeals, and which were overturned."""

from strangerbench.matterkinds import VERDICTS
from strangerbench.paths import matter_of


def appeals_of(matters, name):
    """The names of those that appeal it: a rising tuple."""
    matter_of(matters, name)
    return tuple([matter[0] for matter in matters if matter[1] == name])


def standing(matters, name):
    """The verdict that stands of it, or None."""
    matter_of(matters, name)
    return all_standing(matters).get(name)


def overturned(matters):
    """The names of those whose own verdict isn't the standing one: a rising tuple."""
    stands = all_standing(matters)
    return tuple([matter[0] for matter in matters if matter[6] in VERDICTS and matter[6] != stands[matter[0]]])


def all_standing(matters):
    """Of each matter that has a standing verdict this verdict."""
    stands = {}
    # Appeals have greater names than what they appeal, so each is settled ahead of its lower one, the greatest first.
    for name, lower, _, _, _, _, end in reversed(matters):
        if name not in stands and end in VERDICTS:
            stands[name] = end
        if name in stands and lower is not None and lower not in stands:
            stands[lower] = stands[name]
    return stands
