"""Points [5] to [7]: the order of bills and credits, and the two rounds of a sweep."""

import unittest

from spikebook.day import answers, settings

HUGE = 10 ** 99


def swept(deeds, who="Ann"):
    """The settings of a sweep behind the deeds, where they are all that is set."""
    deeds = deeds + [("sweep", who)]
    made = answers(deeds)[-1]
    assert settings(deeds)[len(settings(deeds[:-1])):] == made
    return made


class Order(unittest.TestCase):
    def test_bills_by_the_day_on_which_they_are_due(self):
        deeds = [
            ("bill", "Ann", 1, 30, 5), ("bill", "Ann", 3, 10, 5), ("bill", "Ann", 2, 20, 5), ("pay", "Ann", 1, 12),
        ]
        self.assertEqual(swept(deeds), [(0, 1, 5), (0, 2, 5), (0, 0, 2)])

    def test_bills_due_on_one_day_by_number(self):
        deeds = [
            ("bill", "Ann", 3, 9, 5), ("bill", "Ann", 1, 9, 5), ("bill", "Ann", 2, 9, 5), ("pay", "Ann", 1, 12),
        ]
        self.assertEqual(swept(deeds), [(0, 0, 5), (0, 1, 5), (0, 2, 2)])

    def test_credits_by_day(self):
        deeds = [
            ("bill", "Ann", 1, 1, 100), ("pay", "Ann", 30, 3), ("pay", "Ann", 10, 2), ("note", 0, 20, 1),
            ("pay", "Ann", -5, 4),
        ]
        self.assertEqual(swept(deeds), [(3, 0, 4), (1, 0, 2), (2, 0, 1), (0, 0, 3)])

    def test_credits_of_one_day_by_number(self):
        deeds = [
            ("bill", "Ann", 1, 1, 100), ("pay", "Ann", 7, 3), ("note", 0, 7, 9), ("pay", "Ann", 7, 2),
        ]
        self.assertEqual(swept(deeds), [(0, 0, 3), (1, 0, 9), (2, 0, 2)])

    def test_days_below_nought_and_of_sixty_figures(self):
        far = 10 ** 59
        deeds = [
            ("bill", "Ann", 0, far, 5), ("bill", "Ann", -far, -far, 5), ("bill", "Ann", -far, 0, 5),
            ("pay", "Ann", far, 4), ("pay", "Ann", -far, 3),
        ]
        self.assertEqual(swept(deeds), [(1, 1, 3), (0, 1, 2), (0, 2, 2)])

    def test_the_first_round_keeps_to_the_order_too(self):
        deeds = [
            ("bill", "Ann", 1, 9, 5), ("bill", "Ann", 1, 4, 5), ("bill", "Ann", 1, 4, 5),
            ("pay", "Ann", 8, 5), ("pay", "Ann", 7, 5),
        ]
        self.assertEqual(swept(deeds), [(1, 1, 5), (0, 2, 5)])

    def test_a_credit_of_an_earlier_day_than_the_bill_is_set_too(self):
        self.assertEqual(swept([("pay", "Ann", 1, 5), ("bill", "Ann", 50, 60, 9)]), [(0, 0, 5)])


class Rounds(unittest.TestCase):
    def test_the_first_round_goes_ahead_of_the_second(self):
        deeds = [
            ("bill", "Ann", 1, 1, 10), ("bill", "Ann", 1, 2, 7), ("pay", "Ann", 1, 4), ("pay", "Ann", 2, 7),
        ]
        self.assertEqual(swept(deeds), [(1, 1, 7), (0, 0, 4)])

    def test_the_whole_of_a_later_bill_ahead_of_parts_of_earlier_ones(self):
        deeds = [("bill", "Ann", 1, 1, 3), ("bill", "Ann", 1, 2, 5), ("pay", "Ann", 1, 5)]
        self.assertEqual(swept(deeds), [(0, 1, 5)])

    def test_the_first_round_looks_at_what_is_left_and_free(self):
        deeds = [
            ("bill", "Ann", 1, 1, 10), ("bill", "Ann", 1, 2, 9), ("pay", "Ann", 1, 9), ("set", 0, 0, 3),
            ("pay", "Ann", 2, 7),
        ]
        # Of credit 0 there are 6 free, of bill 0 there are 7 left: just as much as is free of credit 1.
        self.assertEqual(swept(deeds), [(1, 0, 7), (0, 1, 6)])

    def test_each_bill_once_in_the_first_round(self):
        deeds = [("bill", "Ann", 1, 1, 5), ("bill", "Ann", 1, 2, 8), ("pay", "Ann", 1, 5), ("pay", "Ann", 1, 5)]
        self.assertEqual(swept(deeds), [(0, 0, 5), (1, 1, 5)])

    def test_what_comes_out_alike_in_the_second_round_waits_for_its_turn(self):
        deeds = [
            ("bill", "Ann", 1, 1, 6), ("bill", "Ann", 1, 2, 9), ("pay", "Ann", 1, 2), ("pay", "Ann", 2, 3),
            ("pay", "Ann", 3, 4),
        ]
        self.assertEqual(swept(deeds), [(0, 0, 2), (1, 0, 3), (2, 0, 1), (2, 1, 3)])

    def test_several_credits_over_several_bills(self):
        deeds = [
            ("bill", "Ann", 1, 3, 9), ("bill", "Ann", 1, 1, 7), ("bill", "Ann", 1, 2, 4),
            ("pay", "Ann", 3, 6), ("pay", "Ann", 1, 5), ("pay", "Ann", 2, 8),
        ]
        self.assertEqual(swept(deeds), [(1, 1, 5), (2, 1, 2), (2, 2, 4), (2, 0, 2), (0, 0, 6)])

    def test_what_is_used_up_is_not_looked_at(self):
        deeds = [
            ("bill", "Ann", 1, 1, 5), ("bill", "Ann", 1, 2, 5), ("pay", "Ann", 1, 5), ("pay", "Ann", 1, 5),
            ("set", 0, 0, 5),
        ]
        self.assertEqual(swept(deeds), [(1, 1, 5)])
        self.assertEqual(swept(deeds + [("sweep", "Ann")]), [])

    def test_amounts_of_a_hundred_figures(self):
        deeds = [
            ("bill", "Ann", 1, 1, HUGE - 1), ("bill", "Ann", 1, 2, HUGE), ("pay", "Ann", 1, HUGE + 1),
            ("pay", "Ann", 2, HUGE),
        ]
        self.assertEqual(swept(deeds), [(1, 1, HUGE), (0, 0, HUGE - 1)])


class Notes(unittest.TestCase):
    def test_a_note_goes_against_its_bill_alone(self):
        deeds = [("bill", "Ann", 1, 1, 5), ("bill", "Ann", 1, 2, 5), ("note", 1, 1, 9)]
        self.assertEqual(swept(deeds), [(0, 1, 5)])
        self.assertEqual(swept(deeds + [("sweep", "Ann")]), [])

    def test_a_note_finds_no_other_bill_alike(self):
        deeds = [("bill", "Ann", 1, 1, 5), ("bill", "Ann", 1, 2, 8), ("note", 1, 1, 5)]
        self.assertEqual(swept(deeds), [(0, 1, 5)])

    def test_a_note_on_the_bill_numbered_nought(self):
        deeds = [("bill", "Ann", 1, 9, 5), ("bill", "Ann", 1, 2, 3), ("note", 0, 1, 3)]
        self.assertEqual(swept(deeds), [(0, 0, 3)])

    def test_an_older_payment_may_leave_nothing_for_a_note(self):
        deeds = [("bill", "Ann", 1, 1, 5), ("bill", "Ann", 1, 2, 5), ("pay", "Ann", 1, 6), ("note", 0, 2, 4)]
        self.assertEqual(swept(deeds), [(0, 0, 5), (0, 1, 1)])


class Persons(unittest.TestCase):
    def test_no_bills_or_no_credits(self):
        self.assertEqual(swept([]), [])
        self.assertEqual(swept([("pay", "Ann", 1, 5)]), [])
        self.assertEqual(swept([("bill", "Ann", 1, 1, 5)]), [])
        self.assertEqual(swept([("pay", "Ann", 1, 5), ("bill", "Bob", 1, 1, 5)]), [])
        self.assertEqual(swept([("bill", "Ann", 1, 1, 5), ("pay", "Bob", 1, 5)]), [])

    def test_others_are_left_alone(self):
        deeds = [
            ("bill", "Bob", 1, 1, 5), ("bill", "Ann", 1, 2, 5), ("bill", "", 1, 1, 5), ("bill", "ann", 1, 1, 5),
            ("pay", "Bob", 1, 5), ("pay", "", 1, 5), ("pay", "ann", 1, 5), ("pay", "Ann", 1, 4), ("note", 0, 1, 5),
        ]
        self.assertEqual(swept(deeds), [(3, 1, 4)])
        self.assertEqual(swept(deeds, ""), [(1, 2, 5)])
        self.assertEqual(swept(deeds, "ann"), [(2, 3, 5)])
        self.assertEqual(swept(deeds, "Bob"), [(0, 0, 5)])

    def test_what_is_told_later_waits_for_the_next_sweep(self):
        deeds = [("pay", "Ann", 1, 9), ("sweep", "Ann"), ("bill", "Ann", 1, 1, 5), ("sweep", "Ann"),
                 ("bill", "Ann", 1, 1, 5), ("sweep", "Ann"), ("sweep", "Ann")]
        self.assertEqual(answers(deeds), [0, [], 0, [(0, 0, 5)], 1, [(0, 1, 4)], []])


if __name__ == "__main__":
    unittest.main()
