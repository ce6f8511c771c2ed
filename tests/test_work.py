import unittest

from spikebook.errors import NoAmount, NoBill, NoCredit, NotTheirs, TooEarly, TooMuch
from spikebook.work import Work


def some_work():
    """Two bills and a payment of Ann's, a note on her second bill, and a bill of Bob's."""
    work = Work()
    work.tell_bill("Ann", 1, 9, 10)
    work.tell_bill("Ann", 2, 5, 20)
    work.tell_bill("Bob", 3, 3, 30)
    work.tell_payment("Ann", 4, 15)
    work.tell_note(1, 2, 8)
    return work


def state(work):
    return (len(work.bills), len(work.all_credits), list(work.lefts), list(work.frees), list(work.made))


class Telling(unittest.TestCase):
    def test_bills_and_credits_are_numbered_apart(self):
        work = Work()
        self.assertEqual(work.tell_bill("Ann", 1, 1, 5), 0)
        self.assertEqual(work.tell_payment("Ann", 1, 5), 0)
        self.assertEqual(work.tell_bill("Bob", 1, 1, 5), 1)
        self.assertEqual(work.tell_note(1, 1, 5), 1)
        self.assertEqual(work.tell_payment("", 1, 5), 2)

    def test_a_note_has_the_person_of_its_bill(self):
        work = some_work()
        self.assertEqual(work.tell_note(2, 0, 1), 2)
        self.assertEqual([credit.who for credit in work.all_credits], ["Ann", "Ann", "Bob"])
        self.assertEqual([credit.only for credit in work.all_credits], [None, 1, 2])

    def test_what_is_left_and_free_begins_with_the_whole(self):
        work = some_work()
        self.assertEqual((work.lefts, work.frees, work.made), ([10, 20, 30], [15, 8], []))


class SettingByHand(unittest.TestCase):
    def test_part_by_part(self):
        work = some_work()
        self.assertEqual(work.set_by_hand(0, 0, 4), 4)
        self.assertEqual(work.set_by_hand(0, 1, 1), 1)
        self.assertEqual(work.set_by_hand(1, 1, 8), 8)
        self.assertEqual((work.lefts, work.frees), ([6, 11, 30], [10, 0]))
        self.assertEqual(work.made, [(0, 0, 4), (0, 1, 1), (1, 1, 8)])

    def test_refusals_change_nothing(self):
        tries = (
            (NoCredit, lambda work: work.set_by_hand(2, 0, 1)),
            (NoCredit, lambda work: work.set_by_hand(-1, 0, 1)),
            (NoBill, lambda work: work.set_by_hand(0, 3, 1)),
            (NoBill, lambda work: work.set_by_hand(0, -1, 1)),
            (NoBill, lambda work: work.tell_note(3, 1, 1)),
            (NoBill, lambda work: work.tell_note(-1, 1, 1)),
            (NotTheirs, lambda work: work.set_by_hand(0, 2, 1)),
            (NotTheirs, lambda work: work.set_by_hand(1, 0, 1)),
            (NoAmount, lambda work: work.set_by_hand(0, 0, 0)),
            (NoAmount, lambda work: work.tell_bill("Ann", 1, 1, 0)),
            (NoAmount, lambda work: work.tell_payment("Ann", 1, 0)),
            (NoAmount, lambda work: work.tell_note(0, 1, 0)),
            (TooEarly, lambda work: work.tell_bill("Ann", 1, 0, 1)),
            (TooMuch, lambda work: work.set_by_hand(0, 0, 11)),
            (TooMuch, lambda work: work.set_by_hand(0, 1, 16)),
        )
        work = some_work()
        before = state(work)
        for refusal, attempt in tries:
            with self.assertRaises(refusal):
                attempt(work)
            self.assertEqual(state(work), before)


class Sweeping(unittest.TestCase):
    def test_both_rounds_are_written_down(self):
        work = some_work()
        work.tell_payment("Ann", 9, 10)
        made = work.sweep("Ann")
        self.assertEqual(made, [(2, 0, 10), (1, 1, 8), (0, 1, 12)])
        self.assertEqual(work.made, made)
        self.assertEqual((work.lefts, work.frees), ([0, 0, 30], [3, 0, 0]))

    def test_the_answer_is_a_list_of_its_own(self):
        work = some_work()
        work.sweep("Ann").clear()
        self.assertEqual(work.made, [(1, 1, 8), (0, 1, 12), (0, 0, 3)])

    def test_nothing_to_be_set(self):
        work = some_work()
        before = state(work)
        for who in ("Bob", "Cleo", ""):
            self.assertEqual(work.sweep(who), [])
            self.assertEqual(state(work), before)


if __name__ == "__main__":
    unittest.main()
