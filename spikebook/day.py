"""The answers of deeds, and what is owed and free at a day."""

from spikebook.ages import place_of
from spikebook.book import Book
from spikebook.errors import Refusal
from spikebook.items import bills_in_order, counts_from, credits_in_order


def answers(deeds):
    """The answers of a list of deeds."""
    book = Book()
    return answers_in(book, deeds)


def settings(deeds):
    """What is set behind the deeds, in the order in which it is made when all is done again."""
    book = Book()
    answers_in(book, deeds)
    return list(book.work.made)


def answers_in(book, deeds):
    """Do the deeds in an empty book; their answers."""
    told = []
    for number, deed in enumerate(deeds):
        told.append(answer_of(book, number, deed))
    return told


def answer_of(book, number, deed):
    """The answer of the deed with this number, done or refused."""
    kind = deed[0]
    if kind == "owed":
        return owed_at(book.work, deed[1], deed[2])
    if kind == "free":
        return free_at(book.work, deed[1], deed[2])
    if kind == "ages":
        return ages_at(book.work, deed[1], deed[2], deed[3])
    try:
        if kind == "undo":
            return book.undo(deed[1])
        return book.do(number, deed)
    except Refusal as refusal:
        return refusal.text


def owed_at(work, who, day):
    """The bills owed at a day: tuples of the number and what is left, in order."""
    # A setting has the bill's number at place 1.
    return remaining_at(work, bills_in_order(work.bills, who), 1, day)


def free_at(work, who, day):
    """The credits free at a day: tuples of the number and what is free, in order."""
    # A setting has the credit's number at place 0.
    return remaining_at(work, credits_in_order(work.all_credits, who), 0, day)


def remaining_at(work, told, place, day):
    """The bills or credits of which something remains at a day; settings have their numbers at the place."""
    counting = counting_at(work, day)
    remaining = []
    for item in told:
        rest = item.amount - sum([setting[2] for setting in counting if setting[place] == item.number])
        if item.day <= day and rest > 0:
            remaining.append((item.number, rest))
    return remaining


def counting_at(work, day):
    """The settings that count on a day."""
    return [setting for setting in work.made if counts_at(work, setting, day)]


def counts_at(work, setting, day):
    """Whether a setting counts on a day."""
    return counts_from(work.all_credits[setting[0]], work.bills[setting[1]]) <= day


def ages_at(work, who, day, limits):
    """The sums of what is owed at a day, by how late the bills are."""
    sums = [0] * (len(limits) + 2)
    for number, left in owed_at(work, who, day):
        place = place_of(day - work.bills[number].due, limits)
        sums[place] = sums[place] + left
    return sums
