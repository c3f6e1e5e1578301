"""What rests on a matter by the notes that were read, and what is shaken by notes that turned."""

from strangerbench.standing import all_standing


def rests_on(matters, name):
    """The names of those that read a note of it, or of one that rests on it: a rising tuple."""
    return tuple(sorted(all_resting(matters, [name])))


def shaken(matters, *, news=()):
    """The names of those that read a turned note, and of all that rest on these: a rising tuple."""
    known = all_known(matters, news)
    turned = [matter[0] for matter in matters if any([is_turned(note, known) for note in matter[4]])]
    return tuple(sorted(set(turned + all_resting(matters, turned))))


def all_resting(matters, names):
    """The names of those that rest on any of these names."""
    resting = []
    asked = list(names)
    while asked:
        name = asked.pop()
        more = [one for one in readers_of(matters, name) if one not in resting]
        resting.extend(more)
        asked.extend(more)
    return resting


def readers_of(matters, name):
    """The names of those that read a note of this name."""
    return [matter[0] for matter in matters if name in [note[0] for note in matter[4]]]


def all_known(matters, news):
    """Of each name of which something is known the verdict, or None."""
    known = {name: verdict for name, _, verdict in news}
    stands = all_standing(matters)
    for matter in matters:
        known[matter[0]] = stands.get(matter[0])
    return known


def is_turned(note, known):
    """Whether another verdict than the note's is known of its name."""
    name, _, verdict = note
    return known.get(name) not in (None, verdict)
