"""A paper that tells that a matter is shaken, or that it is firm."""

from strangerbench.paths import matter_of
from strangerbench.resting import all_known, is_turned


def shake_paper(matters, name, *, news=()):
    """A row of notes from the matter to one that turned, where there is one, else all that it hangs on."""
    matter_of(matters, name)
    known = all_known(matters, news)
    notes_of = {matter[0]: matter[4] for matter in matters}
    looked_at = {}
    asked = [(name,)]
    while asked:
        row = asked.pop()
        if row[-1] in notes_of and row[-1] not in looked_at:
            looked_at[row[-1]] = True
            for note in notes_of[row[-1]]:
                if is_turned(note, known):
                    return ("shaken", row, note)
                asked.append(row + (note[0],))
    return ("firm", tuple(sorted(looked_at)))
