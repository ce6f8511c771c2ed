"""How late bills are, told by limits."""


def place_of(late, limits):
    """The place in the list of ages at which a bill late by so many days counts, from nought."""
    if late <= 0:
        return 0
    # The limits rise, so those that are passed are just those that stand ahead of the bill's place.
    return 1 + len([limit for limit in limits if limit < late])
