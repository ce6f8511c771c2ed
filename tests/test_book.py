import unittest

from spikebook.book import Book, done_again
from spikebook.errors import Needed, NoSetting, Refusal, TooMuch

TOLD = (
    ("bill", "Ann", 1, 5, 10),
    ("bill", "Ann", 2, 6, 20),
    ("pay", "Ann", 3, 25),
)


def book_of(deeds):
    book = Book()
    for number, deed in enumerate(deeds):
        book.do(number, deed)
    return book


def state(book):
    work = book.work
    return (dict(book.kept), list(work.made), list(work.lefts), list(work.frees))


class Doing(unittest.TestCase):
    def test_each_sort_of_deed_is_done_and_kept(self):
        deeds = TOLD + (("note", 1, 4, 3), ("set", 0, 0, 2), ("sweep", "Ann"))
        book = Book()
        told = [book.do(number, deed) for number, deed in enumerate(deeds)]
        self.assertEqual(told, [0, 1, 0, 1, 2, [(0, 0, 8), (0, 1, 15), (1, 1, 3)]])
        self.assertEqual(list(book.kept.items()), list(enumerate(deeds)))

    def test_a_refused_deed_is_not_kept(self):
        book = book_of(TOLD)
        before = state(book)
        with self.assertRaises(TooMuch):
            book.do(3, ("set", 0, 0, 11))
        self.assertEqual(state(book), before)

    def test_in_force(self):
        book = book_of(TOLD + (("set", 0, 0, 2), ("sweep", "Ann"), ("sweep", "Bob")))
        self.assertEqual([book.in_force(number) for number in range(-1, 8)], [False] * 4 + [True] * 3 + [False] * 2)


class Undoing(unittest.TestCase):
    def test_all_is_done_again(self):
        book = book_of(TOLD + (("set", 0, 1, 20), ("sweep", "Ann")))
        self.assertEqual(book.work.made, [(0, 1, 20), (0, 0, 5)])
        self.assertEqual(book.undo(3), "undone")
        self.assertEqual(book.work.made, [(0, 0, 10), (0, 1, 15)])
        self.assertEqual((book.work.lefts, book.work.frees), ([0, 5], [0]))
        self.assertEqual(sorted(book.kept), [0, 1, 2, 4])

    def test_a_refused_undoing_changes_nothing(self):
        book = book_of(TOLD + (("set", 0, 1, 20), ("sweep", "Ann"), ("pay", "Ann", 3, 9), ("set", 1, 0, 5)))
        before = state(book)
        for number, refusal in ((3, Needed), (0, NoSetting), (5, NoSetting), (7, NoSetting), (-1, NoSetting)):
            with self.assertRaises(refusal):
                book.undo(number)
            self.assertEqual(state(book), before)

    def test_a_refusal_can_be_taken_as_one(self):
        with self.assertRaises(Refusal):
            Book().undo(0)


class DoneAgain(unittest.TestCase):
    def test_nothing_kept(self):
        work = done_again({})
        self.assertEqual((work.bills, work.all_credits, work.made), ([], [], []))

    def test_the_kept_deeds_stay_as_they_are(self):
        kept = dict(enumerate(TOLD + (("sweep", "Ann"),)))
        before = dict(kept)
        self.assertEqual(done_again(kept).made, [(0, 0, 10), (0, 1, 15)])
        self.assertEqual(kept, before)


if __name__ == "__main__":
    unittest.main()
