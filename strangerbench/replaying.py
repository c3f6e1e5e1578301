"""A world done again from its log."""

from strangerbench.worlds import World


def replayed(log):
    """A new world at which the deeds of the log were done."""
    (_, rule), *rows = log
    world = World(rule)
    world.do_all(rows)
    return world
