"""The book: which deeds are to be done again, what comes of them, and the undoing."""

from spikebook.errors import Needed, NoSetting, TooMuch
from spikebook.work import Work


class Book:
    """The deeds that tell bills and credits and those in force, by their numbers, and the work they come to."""

    def __init__(self):
        self.kept = {}
        self.work = Work()

    def do(self, number, deed):
        """Do the deed with this number, which tells or sets something; its answer."""
        answer = done(self.work, deed)
        # A refused deed never comes to this row, so it is not done again later.
        self.kept[number] = deed
        return answer

    def undo(self, number):
        """Undo what the deed with this number has set."""
        if not self.in_force(number):
            raise NoSetting()
        kept = dict(self.kept)
        kept.pop(number)
        # All is done again aside, so that a refused undoing leaves the book as it was.
        self.work = done_again(kept)
        self.kept = kept
        return "undone"

    def in_force(self, number):
        """Whether the deed with this number is a setting by hand or a sweep in force."""
        return number in self.kept and self.kept[number][0] in ("set", "sweep")


def done(work, deed):
    """Do one deed that tells or sets something; its answer."""
    kind = deed[0]
    if kind == "bill":
        return work.tell_bill(deed[1], deed[2], deed[3], deed[4])
    if kind == "pay":
        return work.tell_payment(deed[1], deed[2], deed[3])
    if kind == "note":
        return work.tell_note(deed[1], deed[2], deed[3])
    if kind == "set":
        return work.set_by_hand(deed[1], deed[2], deed[3])
    return work.sweep(deed[1])


def done_again(kept):
    """What comes of the kept deeds when they are done again from the beginning."""
    work = Work()
    for deed in kept.values():
        try:
            done(work, deed)
        except TooMuch:
            # Each was done before, so one that finds too little now needs what is to be undone.
            raise Needed() from None
    return work
