"""Matters of which just the names, the notes that were read, the ends and the lower ones matter."""

A, B, C, D, E = [("elm", 0, number) for number in range(5)]
# Of which there is no matter.
X, Y = ("oak", 0, 0), ("oak", 0, 1)


def note(name, verdict="yes", voices=()):
    return (name, voices, verdict)


def matter(name, notes=(), end=None, lower=None, voices=()):
    return (name, lower, (), voices, tuple(sorted(notes)), (), end)
