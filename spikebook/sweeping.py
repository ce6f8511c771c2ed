"""The two rounds of a sweep, over bills and credits told by their places in order."""


def alike(frees, lefts, allowed):
    """The settings of the first round: each credit against the first bill of just its amount."""
    taken = {}
    made = []
    for credit, free in enumerate(frees):
        bill = first_alike(free, lefts, allowed[credit], taken)
        if bill is not None:
            taken[bill] = True
            made.append((credit, bill, free))
    return made


def first_alike(free, lefts, fitting, taken):
    """The first fitting bill, not taken yet, of which just as much is left as is free, or None."""
    for bill, left in enumerate(lefts):
        if fitting[bill] and left == free and bill not in taken:
            return bill
    return None


def shared_out(frees, lefts, allowed):
    """The settings of the second round: each credit against its bills, one after the other."""
    still_left = list(lefts)
    made = []
    for credit, free in enumerate(frees):
        parts = parts_of(free, still_left, allowed[credit])
        for bill, amount in parts:
            still_left[bill] = still_left[bill] - amount
            made.append((credit, bill, amount))
    return made


def parts_of(free, lefts, fitting):
    """How one credit is spread over its fitting bills: tuples of the bill's place and the amount."""
    still_free = free
    parts = []
    for bill, left in enumerate(lefts):
        amount = min(still_free, left)
        # A bill that is paid off, or a credit that is used up, must not give a setting of nought.
        if fitting[bill] and amount > 0:
            parts.append((bill, amount))
            still_free = still_free - amount
    return parts
