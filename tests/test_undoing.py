"""Point [9]: what is in force, and the undoing."""

import unittest

from spikebook.day import answers, settings

HUGE = 10 ** 99

BASE = [
    ("bill", "Ann", 1, 5, 10),
    ("bill", "Ann", 2, 6, 20),
    ("pay", "Ann", 3, 25),
    ("pay", "Ann", 4, 12),
]
ASKED = [("owed", "Ann", 9), ("free", "Ann", 9), ("ages", "Ann", 9, (3,))]


def behind(deeds):
    """What comes of more deeds behind the base: their answers, and all that is set."""
    return (answers(BASE + deeds)[len(BASE):], settings(BASE + deeds))


class Undone(unittest.TestCase):
    def test_a_setting_by_hand(self):
        told, made = behind([("set", 0, 0, 4), ("set", 1, 1, 5), ("undo", 4)] + ASKED)
        self.assertEqual(told, [4, 5, "undone", [(0, 10), (1, 15)], [(0, 25), (1, 7)], [0, 15, 10]])
        self.assertEqual(made, [(1, 1, 5)])

    def test_the_later_of_two_like_settings(self):
        told, made = behind([("set", 0, 0, 4), ("set", 0, 0, 4), ("undo", 5), ("undo", 4), ("undo", 5)])
        self.assertEqual(told, [4, 4, "undone", "undone", "no setting"])
        self.assertEqual(made, [])

    def test_a_sweep(self):
        told, made = behind([("sweep", "Ann"), ("undo", 4)] + ASKED)
        self.assertEqual(told[:2], [[(0, 0, 10), (0, 1, 15), (1, 1, 5)], "undone"])
        self.assertEqual(told[2:], [[(0, 10), (1, 20)], [(0, 25), (1, 12)], [0, 20, 10]])
        self.assertEqual(made, [])

    def test_what_is_undone_can_be_set_again(self):
        told, made = behind([("set", 0, 0, 10), ("undo", 4), ("set", 1, 0, 10), ("undo", 6), ("sweep", "Ann")])
        self.assertEqual(told, [10, "undone", 10, "undone", [(0, 0, 10), (0, 1, 15), (1, 1, 5)]])
        self.assertEqual(made, told[4])

    def test_a_sweep_that_set_nothing(self):
        for who in ("Bob", "Ann"):
            told, made = behind([("sweep", "Ann"), ("sweep", who), ("undo", 5), ("undo", 5)])
            self.assertEqual(told[1:], [[], "undone", "no setting"])
            self.assertEqual(made, told[0])

    def test_bills_and_credits_stay_told(self):
        told, made = behind([
            ("sweep", "Ann"), ("bill", "Ann", 1, 1, 5), ("pay", "Ann", 1, 5), ("note", 2, 1, 5), ("undo", 4),
            ("bill", "Ann", 1, 1, 5), ("pay", "Ann", 1, 5), ("set", 3, 2, 5),
        ])
        self.assertEqual(told[1:], [2, 2, 3, "undone", 3, 4, 5])
        self.assertEqual(made, [(3, 2, 5)])


class DoneAgain(unittest.TestCase):
    def test_a_sweep_behind_what_was_undone_sets_otherwise(self):
        told, made = behind([("set", 0, 1, 20), ("sweep", "Ann"), ("undo", 4)] + ASKED)
        self.assertEqual(told[:3], [20, [(0, 0, 5), (1, 0, 5)], "undone"])
        self.assertEqual(made, [(0, 0, 10), (0, 1, 15), (1, 1, 5)])
        self.assertEqual(told[3:], [[], [(1, 7)], [0, 0, 0]])

    def test_a_sweep_ahead_of_other_sweeps(self):
        told, made = behind([
            ("sweep", "Ann"), ("bill", "Ann", 0, 0, 7), ("sweep", "Ann"), ("sweep", "Ann"), ("undo", 4),
        ])
        self.assertEqual(told[2:4], [[(1, 2, 7)], []])
        self.assertEqual(made, [(0, 2, 7), (0, 0, 10), (0, 1, 8), (1, 1, 12)])

    def test_a_sweep_that_set_nothing_at_first_may_set_something(self):
        told, made = behind([("sweep", "Ann"), ("sweep", "Ann"), ("undo", 4)])
        self.assertEqual(told[1:], [[], "undone"])
        self.assertEqual(made, told[0])
        told, made = behind([("sweep", "Ann"), ("sweep", "Ann"), ("undo", 4), ("undo", 5)])
        self.assertEqual(told[2:], ["undone", "undone"])
        self.assertEqual(made, [])

    def test_a_sweep_does_not_reach_what_is_told_behind_it(self):
        told, made = behind([
            ("set", 0, 0, 10), ("sweep", "Ann"), ("bill", "Ann", -9, -9, 3), ("pay", "Ann", -9, 3), ("undo", 4),
        ])
        self.assertEqual(told[4], "undone")
        self.assertEqual(made, [(0, 0, 10), (0, 1, 15), (1, 1, 5)])

    def test_the_settings_stand_in_the_order_of_the_deeds(self):
        told, made = behind([
            ("set", 1, 1, 2), ("sweep", "Bob"), ("set", 0, 1, 3), ("set", 1, 0, 4), ("undo", 6), ("set", 0, 1, 1),
        ])
        self.assertEqual(told[4:], ["undone", 1])
        self.assertEqual(made, [(1, 1, 2), (1, 0, 4), (0, 1, 1)])

    def test_undoing_twice_goes_back_to_the_beginning(self):
        told, made = behind([("set", 0, 1, 20), ("sweep", "Ann"), ("undo", 5), ("undo", 4)] + ASKED)
        self.assertEqual(made, [])
        self.assertEqual(told[4:], answers(BASE + ASKED)[4:])

    def test_the_order_of_undoing_does_not_matter(self):
        done = [("set", 0, 1, 20), ("sweep", "Ann"), ("sweep", "Ann"), ("bill", "Ann", 1, 1, 4), ("sweep", "Ann")]
        one = behind(done + [("undo", 4), ("undo", 6)])
        other = behind(done + [("undo", 6), ("undo", 4)])
        self.assertEqual(one[0][5:], ["undone", "undone"])
        self.assertEqual(one, other)
        self.assertEqual(one[1], [(0, 0, 10), (0, 1, 15), (1, 1, 5), (1, 2, 4)])


class NoSetting(unittest.TestCase):
    def refused(self, deeds, number):
        told, made = behind(deeds + [("undo", number)])
        self.assertEqual(told[-1], "no setting", number)
        self.assertEqual(made, behind(deeds)[1])

    def test_bills_payments_and_notes(self):
        for number in range(4):
            self.refused([("set", 0, 0, 4)], number)
        self.refused([("note", 0, 1, 1)], 4)

    def test_refused_deeds(self):
        for deed in (("set", 0, 0, 11), ("set", 9, 0, 1), ("pay", "Ann", 1, 0), ("undo", 0)):
            self.refused([("set", 0, 0, 1), deed], 5)

    def test_questions(self):
        for deed in ASKED:
            self.refused([deed], 4)

    def test_what_was_undone_already(self):
        self.refused([("set", 0, 0, 4), ("undo", 4)], 4)
        self.refused([("sweep", "Ann"), ("undo", 4)], 4)

    def test_an_undoing(self):
        self.refused([("set", 0, 0, 4), ("undo", 4)], 5)

    def test_itself(self):
        self.refused([("set", 0, 0, 4)], 5)
        self.assertEqual(answers([("undo", 0)]), ["no setting"])

    def test_one_that_comes_later(self):
        told, made = behind([("undo", 5), ("set", 0, 0, 4), ("undo", 7), ("sweep", "Ann")])
        self.assertEqual(told[:3], ["no setting", 4, "no setting"])
        self.assertEqual(made, [(0, 0, 4)] + told[3])

    def test_numbers_that_are_not_there(self):
        for number in (-1, -2, -3, -5, -HUGE, 6, 7, 200, HUGE):
            self.refused([("sweep", "Ann"), ("sweep", "Ann")], number)


class Needed(unittest.TestCase):
    def refused(self, deeds, number):
        """The undoing is refused, and all is as it was: questions, sweeps and other undoings behind it too."""
        told, made = behind(deeds + [("undo", number)])
        self.assertEqual(told[-1], "needed")
        self.assertEqual(made, behind(deeds)[1])
        more = ASKED + [("sweep", "Ann"), ("owed", "Ann", 9), ("free", "Ann", 9)]
        told, made = behind(deeds + [("undo", number)] + more)
        told_without, made_without = behind(deeds + [("owed", "Zoe", 1)] + more)
        self.assertEqual(told[len(deeds) + 1:], told_without[len(deeds) + 1:])
        self.assertEqual(made, made_without)

    def test_a_later_setting_would_find_less_left(self):
        # Without the first setting the sweep pays bill 0 off, of which the last setting needs 5.
        deeds = [("bill", "Bob", 1, 1, 10), ("bill", "Bob", 2, 2, 10), ("pay", "Bob", 1, 10), ("pay", "Bob", 1, 5)]
        deeds = deeds + [("set", 2, 3, 5), ("sweep", "Bob"), ("pay", "Bob", 1, 5), ("set", 4, 2, 2)]
        self.assertEqual(behind(deeds)[0][4:], [5, [(2, 3, 5), (3, 2, 5)], 4, 2])
        self.refused(deeds, 8)

    def test_a_later_setting_would_find_less_free(self):
        # Without the first setting the sweep uses credit 2 up, of which the last setting needs 3.
        deeds = [("bill", "Bob", 1, 1, 10), ("pay", "Bob", 1, 10), ("pay", "Bob", 1, 10), ("set", 3, 2, 10)]
        deeds = deeds + [("sweep", "Bob"), ("bill", "Bob", 2, 2, 9), ("set", 2, 3, 3)]
        self.assertEqual(behind(deeds)[0][3:], [10, [], 3, 3])
        self.refused(deeds, 7)

    def test_just_enough_is_found(self):
        deeds = [("bill", "Bob", 1, 1, 10), ("pay", "Bob", 1, 4), ("pay", "Bob", 1, 20), ("set", 2, 2, 4)]
        deeds = deeds + [("sweep", "Bob"), ("bill", "Bob", 2, 2, 90), ("set", 3, 3, 14)]
        self.assertEqual(behind(deeds)[0][3:], [4, [(3, 2, 6)], 3, 14])
        told, made = behind(deeds + [("undo", 7)])
        self.assertEqual((told[-1], made), ("undone", [(2, 2, 4), (3, 2, 6), (3, 3, 14)]))

    def test_one_more_than_is_found(self):
        # Without the setting by hand the sweep sets credit 3 first, which is older, and leaves 10 of it.
        deeds = [("bill", "Bob", 1, 1, 10), ("pay", "Bob", 2, 4), ("pay", "Bob", 1, 20), ("set", 2, 2, 4)]
        deeds = deeds + [("sweep", "Bob"), ("bill", "Bob", 2, 2, 90)]
        told, made = behind(deeds + [("set", 3, 3, 10), ("undo", 7)])
        self.assertEqual((told[-1], made), ("undone", [(3, 2, 10), (3, 3, 10)]))
        self.refused(deeds + [("set", 3, 3, 11)], 7)

    def test_two_settings_that_would_find_too_little_together(self):
        deeds = [("bill", "Bob", 1, 1, 10), ("pay", "Bob", 2, 4), ("pay", "Bob", 1, 20), ("set", 2, 2, 4)]
        deeds = deeds + [("sweep", "Bob"), ("bill", "Bob", 2, 2, 90), ("set", 3, 3, 6), ("set", 3, 3, 5)]
        self.refused(deeds, 7)
        told, made = behind(deeds + [("undo", 7), ("undo", 10), ("undo", 7)])
        self.assertEqual(told[-3:], ["needed", "undone", "undone"])
        self.assertEqual(made, [(3, 2, 10), (3, 3, 5)])

    def test_a_sweep_that_is_needed(self):
        # Without the first sweep the second takes all of credit 3, which is older, so nothing is free of it.
        deeds = [("bill", "Bob", 1, 1, 6), ("pay", "Bob", 5, 5), ("sweep", "Bob"), ("pay", "Bob", 1, 4)]
        deeds = deeds + [("sweep", "Bob"), ("bill", "Bob", 2, 2, 9), ("set", 3, 3, 3)]
        self.assertEqual(behind(deeds)[0][2:], [[(2, 2, 5)], 3, [(3, 2, 1)], 3, 3])
        self.refused(deeds, 6)

    def test_a_sweep_that_is_not_needed(self):
        # Without the first sweep the second sets the very same, and leaves credit 3 to the setting by hand.
        deeds = [("bill", "Bob", 1, 1, 6), ("pay", "Bob", 5, 6), ("sweep", "Bob"), ("pay", "Bob", 1, 4)]
        deeds = deeds + [("sweep", "Bob"), ("bill", "Bob", 2, 2, 9), ("set", 3, 3, 4)]
        self.assertEqual(behind(deeds)[0][2:], [[(2, 2, 6)], 3, [], 3, 4])
        told, made = behind(deeds + [("undo", 6)])
        self.assertEqual((told[-1], made), ("undone", [(2, 2, 6), (3, 3, 4)]))

    def test_no_longer_needed_once_the_later_one_is_undone(self):
        deeds = [("bill", "Bob", 1, 1, 10), ("pay", "Bob", 1, 10), ("pay", "Bob", 1, 10), ("set", 3, 2, 10)]
        deeds = deeds + [("sweep", "Bob"), ("bill", "Bob", 2, 2, 9), ("set", 2, 3, 3)]
        told, made = behind(deeds + [("undo", 7), ("undo", 10), ("undo", 7)])
        self.assertEqual(told[-3:], ["needed", "undone", "undone"])
        self.assertEqual(made, [(2, 2, 10)])

    def test_no_longer_needed_once_the_sweep_between_is_undone(self):
        deeds = [("bill", "Bob", 1, 1, 10), ("pay", "Bob", 1, 10), ("pay", "Bob", 1, 10), ("set", 3, 2, 10)]
        deeds = deeds + [("sweep", "Bob"), ("bill", "Bob", 2, 2, 9), ("set", 2, 3, 3)]
        told, made = behind(deeds + [("undo", 7), ("undo", 8), ("undo", 7)])
        self.assertEqual(told[-3:], ["needed", "undone", "undone"])
        self.assertEqual(made, [(2, 3, 3)])

    def test_a_refused_undoing_leaves_its_deed_in_force(self):
        deeds = [("bill", "Bob", 1, 1, 10), ("pay", "Bob", 1, 10), ("pay", "Bob", 1, 10), ("set", 3, 2, 10)]
        deeds = deeds + [("sweep", "Bob"), ("bill", "Bob", 2, 2, 9), ("set", 2, 3, 3)]
        told, made = behind(deeds + [("undo", 7), ("undo", 7)])
        self.assertEqual(told[-2:], ["needed", "needed"])
        self.assertEqual(made, [(3, 2, 10), (2, 3, 3)])

    def test_a_later_sweep_alone_needs_nothing(self):
        told, made = behind([("set", 0, 0, 10), ("sweep", "Ann"), ("undo", 4)])
        self.assertEqual(told[-1], "undone")

    def test_amounts_of_a_hundred_figures(self):
        deeds = [("bill", "Bob", 1, 1, HUGE), ("pay", "Bob", 1, HUGE), ("pay", "Bob", 1, HUGE), ("set", 3, 2, HUGE)]
        deeds = deeds + [("sweep", "Bob"), ("bill", "Bob", 2, 2, HUGE), ("set", 2, 3, 1)]
        self.refused(deeds, 7)


if __name__ == "__main__":
    unittest.main()
