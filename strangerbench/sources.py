"""Whence a hand has its voice in a matter: over lower ones and notes to where it sat, or of which one only heard."""

from strangerbench.paths import matter_of


def source_of(matters, name, hand):
    """A row of names from this one to where the voice came from; None where there is none."""
    matter_of(matters, name)
    looked_at = {}
    asked = [(name,)]
    while asked:
        source = asked.pop()
        last = source[-1]
        if end_of(matters, last, hand) is not None:
            return source
        if last not in looked_at:
            looked_at[last] = True
            asked.extend([source + (behind,) for behind in all_behind(matters, last, hand)])
    return None


def end_of(matters, name, hand):
    """By which word a source may end at this name; None where it has to go on."""
    if name not in [matter[0] for matter in matters]:
        return "heard"
    _, _, _, voices, notes, _, _ = matter_of(matters, name)
    if hand in voices and not any([hand in heard for _, heard, _ in notes]):
        return "sat"
    return None


def all_behind(matters, name, hand):
    """The names that may follow this one in a source."""
    if name not in [matter[0] for matter in matters]:
        return []
    _, lower, _, _, notes, _, _ = matter_of(matters, name)
    behind = [told for told, heard, _ in notes if hand in heard]
    if lower is not None:
        behind.append(lower)
    return behind
