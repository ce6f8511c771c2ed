"""Points [2] to [4], [8] and [10]: each deed with its answer, and each refusal."""

import copy
import unittest

from spikebook.day import answers, settings

HUGE = 10 ** 99
SIXTY = 10 ** 59

# Credit 0 is a payment of Ann's, credit 1 a note on her bill 1, credit 2 a payment of Bob's; bill 2 is Bob's.
BASE = [
    ("bill", "Ann", 1, 5, 10),
    ("bill", "Ann", 2, 6, 20),
    ("bill", "Bob", 3, 7, 30),
    ("pay", "Ann", 4, 25),
    ("note", 1, 5, 8),
    ("pay", "Bob", 6, 40),
]
NOT_THERE = (-1, -2, -3, -7, -HUGE, 3, 4, 60, 200, HUGE)


def last(deeds):
    return answers(deeds)[-1]


class EachDeed(unittest.TestCase):
    def test_no_deeds(self):
        self.assertEqual(answers([]), [])
        self.assertEqual(settings([]), [])

    def test_bills_and_credits_are_numbered_from_nought_apart(self):
        self.assertEqual(answers(BASE), [0, 1, 2, 0, 1, 2])

    def test_set_is_answered_with_the_amount(self):
        deeds = BASE + [("set", 0, 0, 1), ("set", 0, 0, 9), ("set", 0, 1, 15), ("set", 1, 1, 5), ("set", 2, 2, 30)]
        self.assertEqual(answers(deeds)[6:], [1, 9, 15, 5, 30])
        self.assertEqual(settings(deeds), [(0, 0, 1), (0, 0, 9), (0, 1, 15), (1, 1, 5), (2, 2, 30)])

    def test_sweep_is_answered_with_its_settings(self):
        deeds = BASE + [("sweep", "Bob"), ("sweep", "Ann"), ("sweep", "Ann")]
        self.assertEqual(answers(deeds)[6:], [[(2, 2, 30)], [(0, 0, 10), (0, 1, 15), (1, 1, 5)], []])
        self.assertEqual(settings(deeds), [(2, 2, 30), (0, 0, 10), (0, 1, 15), (1, 1, 5)])

    def test_undo_is_answered_with_undone(self):
        deeds = BASE + [("set", 0, 0, 1), ("undo", 6)]
        self.assertEqual(answers(deeds)[6:], [1, "undone"])
        self.assertEqual(settings(deeds), [])

    def test_questions(self):
        deeds = BASE + [("owed", "Ann", 9), ("free", "Ann", 9), ("ages", "Ann", 9, (3,))]
        self.assertEqual(answers(deeds)[6:], [[(0, 10), (1, 20)], [(0, 25), (1, 8)], [0, 20, 10]])

    def test_questions_change_nothing(self):
        asked = [("owed", "Ann", 9), ("free", "Ann", 9), ("ages", "Ann", 9, (3,))]
        mixed = []
        for deed in BASE + [("set", 0, 1, 7), ("sweep", "Ann")]:
            mixed = mixed + asked + [deed]
        self.assertEqual(answers(mixed)[3::4], answers(BASE + [("set", 0, 1, 7), ("sweep", "Ann")]))
        self.assertEqual(settings(mixed + asked), settings(BASE + [("set", 0, 1, 7), ("sweep", "Ann")]))

    def test_kinds_of_the_answers(self):
        deeds = BASE + [
            ("set", 0, 0, 1), ("sweep", "Ann"), ("undo", 7), ("owed", "Ann", 9), ("free", "Ann", 9),
            ("ages", "Ann", 9, ()), ("undo", 7),
        ]
        told = answers(deeds)
        self.assertIs(type(told), list)
        self.assertEqual([type(each) for each in told], [int] * 7 + [list, str, list, list, list, str])
        for each in told[7] + told[9] + told[10] + settings(deeds):
            self.assertIs(type(each), tuple)
        self.assertIs(type(settings(deeds)), list)

    def test_asking_again_tells_the_same(self):
        deeds = BASE + [("sweep", "Ann"), ("undo", 6)]
        self.assertEqual(answers(deeds), answers(deeds))
        self.assertEqual(settings(deeds), settings(deeds))

    def test_the_deeds_handed_in_stay_as_they_are(self):
        deeds = BASE + [
            ("set", 0, 0, 1), ("sweep", "Ann"), ("undo", 6), ("undo", 6), ("ages", "Ann", 9, (1, 2)), ("sweep", "Bob"),
        ]
        before = copy.deepcopy(deeds)
        told = answers(deeds)
        self.assertEqual(deeds, before)
        settings(deeds).clear()
        told[7].clear()
        self.assertEqual(deeds, before)
        self.assertEqual(answers(deeds)[7], [(0, 0, 9), (0, 1, 15), (1, 1, 5)])


class Persons(unittest.TestCase):
    def test_the_empty_name_is_a_person(self):
        deeds = [("bill", "", 1, 1, 5), ("pay", "", 1, 3), ("bill", "Ann", 1, 1, 3), ("sweep", ""), ("owed", "", 1)]
        self.assertEqual(answers(deeds), [0, 0, 1, [(0, 0, 3)], [(0, 2)]])

    def test_names_that_differ_in_one_sign(self):
        for one, other in (("Ann", "Anne"), ("Ann", "ann"), ("Ann", "Ann "), ("Ann", "Anm"), ("", " ")):
            deeds = [("bill", one, 1, 1, 5), ("pay", other, 1, 5)]
            self.assertEqual(last(deeds + [("set", 0, 0, 5)]), "not theirs")
            self.assertEqual(last(deeds + [("sweep", one)]), [])
            self.assertEqual(last(deeds + [("sweep", other)]), [])
            self.assertEqual(last(deeds + [("owed", other, 1)]), [])
            self.assertEqual(last(deeds + [("free", one, 1)]), [])

    def test_every_name_is_a_person(self):
        asked = [("sweep", "Zoe"), ("owed", "Zoe", 1), ("free", "Zoe", 1), ("ages", "Zoe", 1, (1, 2))]
        self.assertEqual(answers(BASE + asked)[6:], [[], [], [], [0, 0, 0, 0]])
        self.assertEqual(answers(asked), [[], [], [], [0, 0, 0, 0]])

    def test_a_name_like_a_kind_of_deed(self):
        deeds = [("bill", "set", 1, 1, 5), ("pay", "set", 1, 5), ("undo", 0), ("undo", 1)]
        deeds = deeds + [("sweep", "set"), ("undo", 4)]
        self.assertEqual(answers(deeds), [0, 0, "no setting", "no setting", [(0, 0, 5)], "undone"])

    def test_a_note_has_the_person_of_its_bill(self):
        deeds = BASE + [("note", 2, 1, 4), ("free", "Bob", 9), ("free", "Ann", 9)]
        self.assertEqual(answers(deeds)[6:], [3, [(3, 4), (2, 40)], [(0, 25), (1, 8)]])


class NoCreditOrBill(unittest.TestCase):
    def test_credits_that_are_not_there(self):
        for number in NOT_THERE:
            deeds = BASE + [("set", number, 0, 1)]
            self.assertEqual(last(deeds), "no credit", number)
            self.assertEqual(settings(deeds), [])

    def test_bills_that_are_not_there(self):
        for number in NOT_THERE:
            self.assertEqual(last(BASE + [("set", 0, number, 1)]), "no bill", number)
            self.assertEqual(last(BASE + [("note", number, 1, 1)]), "no bill", number)

    def test_before_anything_is_told(self):
        self.assertEqual(answers([("set", 0, 0, 1), ("note", 0, 1, 1)]), ["no credit", "no bill"])

    def test_they_are_there_once_told(self):
        deeds = [("note", 0, 1, 1), ("bill", "Ann", 1, 1, 5), ("set", 0, 0, 1), ("note", 0, 1, 1), ("set", 0, 0, 1)]
        self.assertEqual(answers(deeds), ["no bill", 0, "no credit", 0, 1])

    def test_a_credit_is_no_bill_and_a_bill_is_no_credit(self):
        bills = [("bill", "Ann", 1, 1, 5), ("bill", "Ann", 1, 1, 5), ("pay", "Ann", 1, 5)]
        self.assertEqual(last(bills + [("set", 1, 0, 1)]), "no credit")
        pays = [("bill", "Ann", 1, 1, 5), ("pay", "Ann", 1, 5), ("pay", "Ann", 1, 5)]
        self.assertEqual(last(pays + [("set", 0, 1, 1)]), "no bill")
        self.assertEqual(last(pays + [("note", 1, 1, 1)]), "no bill")


class NotTheirs(unittest.TestCase):
    def test_a_payment_against_another_persons_bill(self):
        self.assertEqual(last(BASE + [("set", 0, 2, 1)]), "not theirs")
        self.assertEqual(last(BASE + [("set", 2, 0, 1)]), "not theirs")

    def test_a_note_against_another_bill_than_its_own(self):
        self.assertEqual(last(BASE + [("set", 1, 0, 1)]), "not theirs")
        self.assertEqual(last(BASE + [("set", 1, 2, 1)]), "not theirs")
        self.assertEqual(last(BASE + [("set", 1, 1, 1)]), 1)

    def test_a_note_on_the_bill_numbered_nought(self):
        deeds = BASE + [("note", 0, 1, 3)]
        self.assertEqual(last(deeds + [("set", 3, 1, 1)]), "not theirs")
        self.assertEqual(last(deeds + [("set", 3, 0, 3)]), 3)


class NoAmount(unittest.TestCase):
    def test_amounts_below_one(self):
        for amount in (0, -1, -10, -HUGE):
            for deed in (
                ("bill", "Ann", 1, 1, amount), ("pay", "Ann", 1, amount), ("note", 0, 1, amount), ("set", 0, 0, amount),
            ):
                deeds = BASE + [deed]
                self.assertEqual(last(deeds), "no amount", deed)
                self.assertEqual(settings(deeds), [])

    def test_amounts_of_one(self):
        for deed, answer in (
            (("bill", "Ann", 1, 1, 1), 3), (("pay", "Ann", 1, 1), 3), (("note", 0, 1, 1), 3), (("set", 0, 0, 1), 1),
        ):
            self.assertEqual(last(BASE + [deed]), answer)


class TooEarly(unittest.TestCase):
    def test_due_ahead_of_its_own_day(self):
        for day, due in ((1, 0), (0, -1), (-4, -5), (SIXTY, SIXTY - 1), (9, -SIXTY)):
            self.assertEqual(last([("bill", "Ann", day, due, 5)]), "too early", (day, due))

    def test_due_on_its_own_day_or_later(self):
        for day, due in ((1, 1), (0, 0), (-5, -5), (-5, -4), (SIXTY, SIXTY), (-SIXTY, SIXTY)):
            self.assertEqual(last([("bill", "Ann", day, due, 5)]), 0, (day, due))

    def test_a_note_may_be_of_an_earlier_day_than_its_bill(self):
        self.assertEqual(last(BASE + [("note", 2, -50, 1)]), 3)


class TooMuch(unittest.TestCase):
    def test_more_than_is_free(self):
        self.assertEqual(last(BASE + [("set", 1, 1, 9)]), "too much")
        self.assertEqual(last(BASE + [("set", 1, 1, 8)]), 8)
        self.assertEqual(last(BASE + [("set", 0, 1, 20), ("set", 0, 0, 6)]), "too much")
        self.assertEqual(last(BASE + [("set", 0, 1, 20), ("set", 0, 0, 5)]), 5)

    def test_more_than_is_left(self):
        self.assertEqual(last(BASE + [("set", 0, 0, 11)]), "too much")
        self.assertEqual(last(BASE + [("set", 0, 0, 10)]), 10)
        self.assertEqual(last(BASE + [("set", 1, 1, 8), ("set", 0, 1, 13)]), "too much")
        self.assertEqual(last(BASE + [("set", 1, 1, 8), ("set", 0, 1, 12)]), 12)

    def test_nothing_free_or_nothing_left(self):
        self.assertEqual(last(BASE + [("set", 1, 1, 8), ("set", 1, 1, 1)]), "too much")
        self.assertEqual(last(BASE + [("set", 0, 0, 10), ("set", 0, 0, 1)]), "too much")

    def test_behind_a_sweep(self):
        self.assertEqual(last(BASE + [("sweep", "Bob"), ("set", 2, 2, 1)]), "too much")

    def test_settings_of_later_days_count_too(self):
        deeds = [("bill", "Ann", 1, 1, 5), ("pay", "Ann", 90, 5), ("pay", "Ann", 1, 5)]
        self.assertEqual(last(deeds + [("set", 0, 0, 3), ("owed", "Ann", 1)]), [(0, 5)])
        self.assertEqual(last(deeds + [("set", 0, 0, 3), ("set", 1, 0, 3)]), "too much")

    def test_very_much(self):
        self.assertEqual(last(BASE + [("set", 0, 0, HUGE)]), "too much")


class TheFirstThatHolds(unittest.TestCase):
    def test_no_credit_ahead_of_all(self):
        for bill, amount in ((9, 1), (-1, 0), (0, 0), (0, HUGE), (2, HUGE)):
            self.assertEqual(last(BASE + [("set", 9, bill, amount)]), "no credit")
            self.assertEqual(last(BASE + [("set", -1, bill, amount)]), "no credit")

    def test_no_bill_ahead_of_the_amount(self):
        for amount in (0, -1, HUGE):
            self.assertEqual(last(BASE + [("set", 0, 9, amount)]), "no bill")
        for amount in (0, -1):
            self.assertEqual(last(BASE + [("note", 9, 1, amount)]), "no bill")
            self.assertEqual(last(BASE + [("note", -1, 1, amount)]), "no bill")

    def test_not_theirs_ahead_of_the_amount(self):
        for amount in (0, -1, HUGE):
            self.assertEqual(last(BASE + [("set", 0, 2, amount)]), "not theirs")
            self.assertEqual(last(BASE + [("set", 1, 0, amount)]), "not theirs")

    def test_no_amount_ahead_of_too_early(self):
        for amount in (0, -1):
            self.assertEqual(last([("bill", "Ann", 5, 4, amount)]), "no amount")

    def test_no_amount_where_nothing_is_free_or_left(self):
        self.assertEqual(last(BASE + [("set", 0, 0, 10), ("set", 0, 0, 0)]), "no amount")
        self.assertEqual(last(BASE + [("sweep", "Bob"), ("set", 2, 2, 0)]), "no amount")


class RefusedDeeds(unittest.TestCase):
    REFUSED = [
        ("set", 9, 0, 1), ("set", 0, 9, 1), ("note", 9, 1, 1), ("set", 0, 2, 1), ("set", 1, 0, 1),
        ("bill", "Ann", 1, 1, 0), ("pay", "Ann", 1, 0), ("note", 0, 1, 0), ("set", 0, 0, 0),
        ("bill", "Ann", 1, 0, 5), ("set", 0, 0, 11), ("undo", 0), ("undo", 6),
    ]
    TEXTS = [
        "no credit", "no bill", "no bill", "not theirs", "not theirs", "no amount", "no amount", "no amount",
        "no amount", "too early", "too much", "no setting", "no setting",
    ]

    def test_they_change_nothing(self):
        asked = [
            ("owed", "Ann", 9), ("free", "Ann", 9), ("ages", "Ann", 9, (2,)),
            ("bill", "Ann", 1, 1, 1), ("pay", "Ann", 1, 1), ("sweep", "Ann"), ("sweep", "Bob"),
        ]
        told = answers(BASE + self.REFUSED + asked)
        self.assertEqual(told[6:19], self.TEXTS)
        self.assertEqual(told[19:], answers(BASE + asked)[6:])
        self.assertEqual(settings(BASE + self.REFUSED + asked), settings(BASE + asked))

    def test_they_are_not_done_again_when_something_is_undone(self):
        # The refused setting and bill would be good ones, once the setting ahead of them is gone.
        deeds = BASE + [("set", 0, 0, 10), ("set", 0, 0, 5), ("set", 2, 2, 1), ("undo", 6)]
        self.assertEqual(answers(deeds)[6:], [10, "too much", 1, "undone"])
        self.assertEqual(settings(deeds), [(2, 2, 1)])

    def test_they_have_numbers_too(self):
        deeds = [
            ("set", 0, 0, 1), ("owed", "Ann", 1), ("bill", "Ann", 1, 1, 5), ("undo", 9), ("pay", "Ann", 1, 5),
            ("set", 0, 0, 2), ("undo", 2), ("undo", 5),
        ]
        self.assertEqual(
            answers(deeds), ["no credit", [], 0, "no setting", 0, 2, "no setting", "undone"],
        )


class Sizes(unittest.TestCase):
    def test_amounts_of_a_hundred_figures(self):
        for whole in (HUGE, 10 ** 100 - 1, 10 ** 130 + 1):
            deeds = [
                ("bill", "Ann", 1, 1, whole), ("pay", "Ann", 1, whole + 1), ("set", 0, 0, whole - 1),
                ("owed", "Ann", 1), ("free", "Ann", 1), ("set", 0, 0, 2), ("sweep", "Ann"), ("free", "Ann", 1),
            ]
            self.assertEqual(
                answers(deeds), [0, 0, whole - 1, [(0, 1)], [(0, 2)], "too much", [(0, 0, 1)], [(0, 1)]],
            )
            self.assertEqual(settings(deeds), [(0, 0, whole - 1), (0, 0, 1)])

    def test_more_than_two_hundred_deeds(self):
        many = 120
        deeds = [("bill", "Ann", day, day, 2) for day in range(many)] + [("pay", "Ann", 0, 1)] * many
        deeds = deeds + [("sweep", "Ann"), ("undo", 2 * many), ("set", many - 1, many - 1, 1)]
        told = answers(deeds)
        self.assertEqual(told[:2 * many], list(range(many)) * 2)
        self.assertEqual(told[2 * many], [(number, number // 2, 1) for number in range(many)])
        self.assertEqual(told[2 * many + 1:], ["undone", 1])
        self.assertEqual(settings(deeds), [(many - 1, many - 1, 1)])


if __name__ == "__main__":
    unittest.main()
