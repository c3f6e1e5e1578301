"""What two have heard of how often towns rose, put together."""


def heard_together(one, other):
    """Of each town the greater rise, with its day; of like rises the greater day."""
    # Both tell of the same towns as they rise, so like places tell of one town.
    return tuple([max(told, heard) for told, heard in zip(one, other)])
