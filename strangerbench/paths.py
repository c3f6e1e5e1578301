"""From a matter down to its root, and whose voices are on this way."""

from strangerbench.errors import NoName


def matter_of(matters, name):
    """The matter that is called so."""
    for matter in matters:
        if matter[0] == name:
            return matter
    raise NoName(name)


def path_of(matters, name):
    """The names from this one over each lower one to the root."""
    path = []
    while name is not None:
        path.append(name)
        name = matter_of(matters, name)[1]
    return tuple(path)


def root_of(matters, name):
    """The last name of the path."""
    return path_of(matters, name)[-1]


def path_voices(matters, name):
    """All voices of the matters on the path: a rising tuple."""
    voices = {}
    for step in path_of(matters, name):
        for hand in matter_of(matters, step)[3]:
            voices[hand] = True
    return tuple(sorted(voices))
