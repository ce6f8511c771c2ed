"""Points [11] to [14]: from which day a setting counts, what is owed and free at a day, and the ages."""

import unittest

from spikebook.day import answers

HUGE = 10 ** 99
FAR = 10 ** 59


def asked(deeds, *questions):
    """The answers of questions behind the deeds."""
    return answers(deeds + list(questions))[len(deeds):]


def owed(deeds, days, who="Ann"):
    return asked(deeds, *[("owed", who, day) for day in days])


def free(deeds, days, who="Ann"):
    return asked(deeds, *[("free", who, day) for day in days])


class Owed(unittest.TestCase):
    def test_ahead_of_at_and_behind_the_day_of_a_bill(self):
        deeds = [("bill", "Ann", 5, 9, 10)]
        self.assertEqual(owed(deeds, (4, 5, 6, 9, 10)), [[], [(0, 10)], [(0, 10)], [(0, 10)], [(0, 10)]])

    def test_in_the_order_of_the_days_on_which_they_are_due(self):
        deeds = [
            ("bill", "Ann", 1, 30, 3), ("bill", "Ann", 3, 10, 4), ("bill", "Ann", 2, 30, 5), ("bill", "Ann", 3, 3, 6),
        ]
        self.assertEqual(owed(deeds, (1, 2, 3)), [
            [(0, 3)], [(0, 3), (2, 5)], [(3, 6), (1, 4), (0, 3), (2, 5)],
        ])

    def test_settings_of_a_later_credit_count_from_its_day_on(self):
        deeds = [("bill", "Ann", 5, 9, 10), ("pay", "Ann", 7, 4), ("set", 0, 0, 4)]
        self.assertEqual(owed(deeds, (4, 5, 6, 7, 8)), [[], [(0, 10)], [(0, 10)], [(0, 6)], [(0, 6)]])

    def test_settings_of_an_earlier_credit_count_from_the_day_of_the_bill_on(self):
        deeds = [("bill", "Ann", 5, 9, 10), ("pay", "Ann", 2, 4), ("set", 0, 0, 4)]
        self.assertEqual(owed(deeds, (2, 4, 5, 6)), [[], [], [(0, 6)], [(0, 6)]])

    def test_the_due_day_does_not_matter_for_what_counts(self):
        deeds = [("bill", "Ann", 1, 50, 10), ("pay", "Ann", 2, 10), ("sweep", "Ann")]
        self.assertEqual(owed(deeds, (1, 2, 49, 50, 51)), [[(0, 10)], [], [], [], []])

    def test_a_bill_that_is_paid_off_later(self):
        deeds = [
            ("bill", "Ann", 1, 1, 10), ("pay", "Ann", 3, 4), ("pay", "Ann", 5, 4), ("note", 0, 7, 2), ("sweep", "Ann"),
        ]
        self.assertEqual(owed(deeds, range(9)), [
            [], [(0, 10)], [(0, 10)], [(0, 6)], [(0, 6)], [(0, 2)], [(0, 2)], [], [],
        ])

    def test_what_is_set_behind_the_question_is_not_in_it(self):
        deeds = [
            ("bill", "Ann", 1, 1, 10), ("pay", "Ann", 1, 4), ("owed", "Ann", 1), ("sweep", "Ann"), ("owed", "Ann", 1),
            ("undo", 3), ("owed", "Ann", 1), ("bill", "Ann", 0, 0, 1), ("owed", "Ann", 1),
        ]
        told = answers(deeds)
        self.assertEqual(told[2::2], [[(0, 10)], [(0, 6)], [(0, 10)], [(1, 1), (0, 10)]])

    def test_other_persons(self):
        deeds = [("bill", "Ann", 1, 1, 10), ("bill", "", 1, 1, 20), ("bill", "ann", 1, 1, 30)]
        self.assertEqual([owed(deeds, (1,), who) for who in ("", "ann", "Ann", "Zoe")], [
            [[(1, 20)]], [[(2, 30)]], [[(0, 10)]], [[]],
        ])

    def test_one_set_against_two_bills_of_two_days(self):
        deeds = [("bill", "Ann", 1, 1, 10), ("bill", "Ann", 8, 8, 10), ("pay", "Ann", 4, 20), ("sweep", "Ann")]
        self.assertEqual(owed(deeds, (0, 1, 3, 4, 7, 8)), [[], [(0, 10)], [(0, 10)], [], [], []])
        self.assertEqual(free(deeds, (0, 1, 3, 4, 7, 8)), [[], [], [], [(0, 10)], [(0, 10)], []])


class Free(unittest.TestCase):
    def test_ahead_of_at_and_behind_the_day_of_a_credit(self):
        deeds = [("pay", "Ann", 5, 10)]
        self.assertEqual(free(deeds, (4, 5, 6)), [[], [(0, 10)], [(0, 10)]])

    def test_in_the_order_of_their_days(self):
        deeds = [
            ("bill", "Ann", 1, 1, 9), ("pay", "Ann", 4, 1), ("note", 0, 3, 2), ("pay", "Ann", 4, 3),
            ("pay", "Ann", -1, 4), ("note", 0, 4, 5),
        ]
        self.assertEqual(free(deeds, (-2, -1, 3, 4)), [
            [], [(3, 4)], [(3, 4), (1, 2)], [(3, 4), (1, 2), (0, 1), (2, 3), (4, 5)],
        ])

    def test_settings_against_a_later_bill_count_from_its_day_on(self):
        deeds = [("pay", "Ann", 2, 10), ("bill", "Ann", 5, 9, 4), ("set", 0, 0, 4)]
        self.assertEqual(free(deeds, (1, 2, 4, 5, 6)), [[], [(0, 10)], [(0, 10)], [(0, 6)], [(0, 6)]])

    def test_settings_against_an_earlier_bill_count_from_the_day_of_the_credit_on(self):
        deeds = [("pay", "Ann", 5, 10), ("bill", "Ann", 2, 9, 4), ("set", 0, 0, 4)]
        self.assertEqual(free(deeds, (2, 4, 5, 6)), [[], [], [(0, 6)], [(0, 6)]])

    def test_a_credit_that_is_used_up_later(self):
        deeds = [("pay", "Ann", 1, 10), ("bill", "Ann", 3, 3, 4), ("bill", "Ann", 5, 5, 6), ("sweep", "Ann")]
        self.assertEqual(free(deeds, range(7)), [[], [(0, 10)], [(0, 10)], [(0, 6)], [(0, 6)], [], []])

    def test_other_persons(self):
        deeds = [("pay", "Ann", 1, 10), ("pay", "", 1, 20), ("bill", "ann", 1, 1, 30), ("note", 0, 1, 5)]
        self.assertEqual([free(deeds, (1,), who) for who in ("", "ann", "Ann", "Zoe")], [
            [[(1, 20)]], [[(2, 5)]], [[(0, 10)]], [[]],
        ])


class Ages(unittest.TestCase):
    def ages(self, deeds, day, limits, who="Ann"):
        (told,) = asked(deeds, ("ages", who, day, limits))
        (left,) = owed(deeds, (day,), who)
        self.assertEqual(sum(told), sum(amount for _, amount in left))
        self.assertEqual(len(told), len(limits) + 2)
        return told

    # Bill n is due on day 10 * n, and is of the amount of two to the power of n.
    STAIRS = [("bill", "Ann", 0, 10 * number, 2 ** number) for number in range(6)]

    def test_no_limits(self):
        self.assertEqual(self.ages(self.STAIRS, 0, ()), [63, 0])
        self.assertEqual(self.ages(self.STAIRS, 1, ()), [62, 1])
        self.assertEqual(self.ages(self.STAIRS, 30, ()), [56, 7])
        self.assertEqual(self.ages(self.STAIRS, 31, ()), [48, 15])
        self.assertEqual(self.ages(self.STAIRS, 500, ()), [0, 63])

    def test_one_limit(self):
        self.assertEqual(self.ages(self.STAIRS, 30, (10,)), [56, 4, 3])
        self.assertEqual(self.ages(self.STAIRS, 30, (9,)), [56, 0, 7])
        self.assertEqual(self.ages(self.STAIRS, 30, (11,)), [56, 4, 3])
        self.assertEqual(self.ages(self.STAIRS, 30, (1,)), [56, 0, 7])
        self.assertEqual(self.ages(self.STAIRS, 30, (30,)), [56, 7, 0])

    def test_late_by_just_a_limit_and_by_one_more(self):
        deeds = [("bill", "Ann", 0, 0, 7)]
        self.assertEqual(self.ages(deeds, 0, (1, 30)), [7, 0, 0, 0])
        self.assertEqual(self.ages(deeds, 1, (1, 30)), [0, 7, 0, 0])
        self.assertEqual(self.ages(deeds, 2, (1, 30)), [0, 0, 7, 0])
        self.assertEqual(self.ages(deeds, 30, (1, 30)), [0, 0, 7, 0])
        self.assertEqual(self.ages(deeds, 31, (1, 30)), [0, 0, 0, 7])

    def test_several_limits(self):
        self.assertEqual(self.ages(self.STAIRS, 45, (5, 15, 25, 35)), [32, 16, 8, 4, 2, 1])
        self.assertEqual(self.ages(self.STAIRS, 45, (4, 14, 24, 34)), [32, 0, 16, 8, 4, 3])
        self.assertEqual(self.ages(self.STAIRS, 45, (100, 200, 300)), [32, 31, 0, 0, 0])

    def test_only_what_is_owed_at_the_day(self):
        deeds = [
            ("bill", "Ann", 1, 2, 10), ("bill", "Ann", 6, 6, 20), ("pay", "Ann", 4, 3), ("pay", "Ann", 9, 9),
            ("sweep", "Ann"),
        ]
        # The first payment and 7 of the second go against bill 0, the last 2 against bill 1.
        for day, expected in (
            (0, [0, 0, 0]), (1, [10, 0, 0]), (2, [10, 0, 0]), (3, [0, 10, 0]), (4, [0, 7, 0]), (5, [0, 0, 7]),
            (6, [20, 0, 7]), (7, [0, 20, 7]), (9, [0, 0, 18]),
        ):
            self.assertEqual(self.ages(deeds, day, (2,)), expected, day)

    def test_nothing_owed(self):
        self.assertEqual(self.ages([], 9, ()), [0, 0])
        self.assertEqual(self.ages([], 9, (1, 2, 3)), [0, 0, 0, 0, 0])
        self.assertEqual(self.ages(self.STAIRS, -1, (1,)), [0, 0, 0])
        paid_off = [("bill", "Ann", 1, 1, 5), ("pay", "Ann", 1, 5), ("sweep", "Ann")]
        self.assertEqual(self.ages(paid_off, 9, (1,)), [0, 0, 0])

    def test_other_persons(self):
        deeds = [("bill", "", 1, 1, 10), ("bill", "Ann", 1, 1, 20)]
        self.assertEqual(self.ages(deeds, 3, (1,), ""), [0, 0, 10])
        self.assertEqual(self.ages(deeds, 3, (2,)), [0, 20, 0])

    def test_more_than_sixty_limits(self):
        limits = tuple(range(1, 71))
        deeds = [("bill", "Ann", 0, due, due + 1) for due in range(72)]
        # At day 71 the bill due on day d is late by 71 - d, so it stands at place 71 - d.
        self.assertEqual(self.ages(deeds, 71, limits), [72 - place for place in range(72)])

    def test_very_large_amounts_days_and_limits(self):
        deeds = [("bill", "Ann", -FAR, FAR, HUGE), ("bill", "Ann", -FAR, -FAR, HUGE), ("bill", "Ann", 0, 0, HUGE + 1)]
        self.assertEqual(self.ages(deeds, FAR, ()), [HUGE, 2 * HUGE + 1])
        self.assertEqual(self.ages(deeds, FAR, (FAR,)), [HUGE, HUGE + 1, HUGE])
        self.assertEqual(self.ages(deeds, FAR, (FAR - 1,)), [HUGE, 0, 2 * HUGE + 1])
        self.assertEqual(self.ages(deeds, FAR, (FAR, 2 * FAR)), [HUGE, HUGE + 1, HUGE, 0])
        self.assertEqual(self.ages(deeds, FAR + 1, (FAR, 2 * FAR)), [0, HUGE, HUGE + 1, HUGE])


class FarDays(unittest.TestCase):
    def test_days_below_nought(self):
        deeds = [("bill", "Ann", -9, -5, 10), ("pay", "Ann", -7, 4), ("sweep", "Ann")]
        self.assertEqual(owed(deeds, (-10, -9, -8, -7, 0)), [[], [(0, 10)], [(0, 10)], [(0, 6)], [(0, 6)]])
        questions = [("ages", "Ann", day, (1,)) for day in (-5, -4, -3)]
        self.assertEqual(asked(deeds, *questions), [[6, 0, 0], [0, 6, 0], [0, 0, 6]])

    def test_days_of_sixty_figures(self):
        for far in (FAR, -FAR):
            deeds = [("bill", "Ann", far, far + 1, 10), ("pay", "Ann", far + 2, 4), ("sweep", "Ann")]
            self.assertEqual(owed(deeds, (far - 1, far, far + 1, far + 2)), [[], [(0, 10)], [(0, 10)], [(0, 6)]])
            self.assertEqual(asked(deeds, ("ages", "Ann", far + 2, (1,)), ("ages", "Ann", far + 3, (1,))), [
                [0, 6, 0], [0, 0, 6],
            ])


if __name__ == "__main__":
    unittest.main()
