"""Bills and credits as they were told, their order, and what can be set against what."""


class Bill:
    """A bill; what is left of it is not kept here, as that hangs on what is set and can be undone."""

    def __init__(self, number, who, day, due, amount):
        self.number = number
        self.who = who
        self.day = day
        self.due = due
        self.amount = amount


class Credit:
    """A payment, or a note: then `only` is the number of the one bill it can be set against, else None."""

    def __init__(self, number, who, day, amount, only):
        self.number = number
        self.who = who
        self.day = day
        self.amount = amount
        self.only = only


def fits(credit, bill):
    """Whether the credit can be set against the bill."""
    if credit.only is None:
        return credit.who == bill.who
    return credit.only == bill.number


def counts_from(credit, bill):
    """The day from which on a setting of the credit against the bill counts."""
    return max(credit.day, bill.day)


def bills_in_order(bills, who):
    """The bills of a person, those due first ahead."""
    theirs = [bill for bill in bills if bill.who == who]
    return sorted(theirs, key=lambda bill: (bill.due, bill.number))


def credits_in_order(all_credits, who):
    """The credits of a person, the oldest ahead."""
    theirs = [credit for credit in all_credits if credit.who == who]
    return sorted(theirs, key=lambda credit: (credit.day, credit.number))
