import copy
import itertools
import unittest

from spikebook.sweeping import alike, shared_out

HUGE = 10 ** 99


def all_allowed(frees, lefts):
    return [[True] * len(lefts) for _ in frees]


def small_cases():
    """Every case of up to two credits and three bills with amounts of one to three."""
    for many_credits, many_bills in itertools.product(range(3), range(4)):
        rows = list(itertools.product((True, False), repeat=many_bills))
        for frees in itertools.product((1, 2, 3), repeat=many_credits):
            for lefts in itertools.product((1, 2, 3), repeat=many_bills):
                for allowed in itertools.product(rows, repeat=many_credits):
                    yield list(frees), list(lefts), [list(row) for row in allowed]


class Rounds(unittest.TestCase):
    """What both rounds are asked by."""

    def ask(self, way, frees, lefts, allowed):
        """The answer, where its form is right, nothing handed in is changed and asking again tells the same."""
        before = copy.deepcopy((frees, lefts, allowed))
        made = way(frees, lefts, allowed)
        self.assertEqual((frees, lefts, allowed), before)
        self.assertIs(type(made), list)
        for setting in made:
            self.assertIs(type(setting), tuple)
            self.assertEqual([type(part) for part in setting], [int, int, int])
        self.assertEqual(way(frees, lefts, allowed), made)
        self.assertEqual((frees, lefts, allowed), before)
        return made

    def alike(self, frees, lefts, allowed=None):
        return self.ask(alike, frees, lefts, all_allowed(frees, lefts) if allowed is None else allowed)

    def shared_out(self, frees, lefts, allowed=None):
        return self.ask(shared_out, frees, lefts, all_allowed(frees, lefts) if allowed is None else allowed)


class Alike(Rounds):
    def test_first_bill(self):
        self.assertEqual(self.alike([5], [5]), [(0, 0, 5)])
        self.assertEqual(self.alike([5], [5, 5]), [(0, 0, 5)])

    def test_later_bill(self):
        self.assertEqual(self.alike([5], [4, 6, 5, 5]), [(0, 2, 5)])

    def test_bill_that_is_not_allowed_is_passed_over(self):
        self.assertEqual(self.alike([5], [5, 5], [[False, True]]), [(0, 1, 5)])
        self.assertEqual(self.alike([5], [5, 5], [[False, False]]), [])
        self.assertEqual(self.alike([5], [5], [[False]]), [])

    def test_each_credit_has_its_own_allowed_bills(self):
        self.assertEqual(self.alike([5, 5], [5, 5], [[False, True], [True, False]]), [(0, 1, 5), (1, 0, 5)])

    def test_bill_that_is_taken_is_passed_over(self):
        self.assertEqual(self.alike([5, 5], [5, 3, 5]), [(0, 0, 5), (1, 2, 5)])
        self.assertEqual(self.alike([5, 5, 5], [5, 5, 5]), [(0, 0, 5), (1, 1, 5), (2, 2, 5)])

    def test_bill_is_not_kept_for_a_later_credit(self):
        self.assertEqual(self.alike([5, 5], [5, 5], [[True, True], [True, False]]), [(0, 0, 5)])

    def test_two_credits_and_one_bill(self):
        self.assertEqual(self.alike([5, 5], [5]), [(0, 0, 5)])
        self.assertEqual(self.alike([5, 5], [5], [[False], [True]]), [(1, 0, 5)])
        self.assertEqual(self.alike([4, 5], [5]), [(1, 0, 5)])

    def test_order_of_the_credits(self):
        self.assertEqual(self.alike([3, 2, 1], [1, 2, 3]), [(0, 2, 3), (1, 1, 2), (2, 0, 1)])

    def test_no_equal_amount(self):
        self.assertEqual(self.alike([5], [4]), [])
        self.assertEqual(self.alike([5], [6]), [])
        self.assertEqual(self.alike([5, 1], [4, 2]), [])

    def test_sums_are_not_looked_for(self):
        self.assertEqual(self.alike([5], [2, 3]), [])
        self.assertEqual(self.alike([2, 3], [5]), [])

    def test_amount_of_one(self):
        self.assertEqual(self.alike([1], [1]), [(0, 0, 1)])

    def test_empty_lists(self):
        self.assertEqual(self.alike([], []), [])
        self.assertEqual(self.alike([], [5]), [])
        self.assertEqual(self.alike([5], []), [])

    def test_a_hundred_figures(self):
        self.assertEqual(self.alike([HUGE], [HUGE - 1, HUGE + 1, HUGE]), [(0, 2, HUGE)])
        self.assertEqual(self.alike([10 ** 130 + 1], [10 ** 130, 10 ** 130 + 1]), [(0, 1, 10 ** 130 + 1)])

    def test_long_lists(self):
        amounts = list(range(1, 71))
        expected = [(place, 69 - place, amount) for place, amount in enumerate(amounts)]
        self.assertEqual(self.alike(amounts, list(reversed(amounts))), expected)

    def test_small_cases_by_the_words_of_the_document(self):
        for frees, lefts, allowed in small_cases():
            made = alike(frees, lefts, allowed)
            expected = []
            for credit, free in enumerate(frees):
                behind = [bill for _, bill, _ in expected]
                found = [
                    bill for bill in range(len(lefts))
                    if allowed[credit][bill] and lefts[bill] == free and bill not in behind
                ]
                expected.extend((credit, bill, free) for bill in found[:1])
            self.assertEqual(made, expected, (frees, lefts, allowed))


class SharedOut(Rounds):
    def test_one_credit_over_several_bills(self):
        self.assertEqual(self.shared_out([10], [3, 4, 5]), [(0, 0, 3), (0, 1, 4), (0, 2, 3)])

    def test_one_credit_over_all_bills_with_some_to_spare(self):
        self.assertEqual(self.shared_out([100], [3, 4, 5]), [(0, 0, 3), (0, 1, 4), (0, 2, 5)])

    def test_several_credits_over_one_bill(self):
        self.assertEqual(self.shared_out([3, 4, 5], [10]), [(0, 0, 3), (1, 0, 4), (2, 0, 3)])

    def test_several_credits_that_do_not_fill_one_bill(self):
        self.assertEqual(self.shared_out([3, 4, 5], [100]), [(0, 0, 3), (1, 0, 4), (2, 0, 5)])

    def test_several_credits_over_several_bills(self):
        self.assertEqual(self.shared_out([5, 7], [7, 9]), [(0, 0, 5), (1, 0, 2), (1, 1, 5)])
        self.assertEqual(
            self.shared_out([4, 4, 4], [3, 3, 3]),
            [(0, 0, 3), (0, 1, 1), (1, 1, 2), (1, 2, 2), (2, 2, 1)],
        )

    def test_credit_that_ends_just_with_a_bill(self):
        self.assertEqual(self.shared_out([7], [3, 4, 5]), [(0, 0, 3), (0, 1, 4)])
        self.assertEqual(self.shared_out([7, 2], [3, 4, 5]), [(0, 0, 3), (0, 1, 4), (1, 2, 2)])
        self.assertEqual(self.shared_out([3], [3]), [(0, 0, 3)])

    def test_bill_that_ends_just_with_a_credit(self):
        self.assertEqual(self.shared_out([3, 4, 5], [7, 9]), [(0, 0, 3), (1, 0, 4), (2, 1, 5)])

    def test_equal_amounts_do_not_go_first(self):
        self.assertEqual(self.shared_out([5], [3, 5]), [(0, 0, 3), (0, 1, 2)])

    def test_bills_that_are_not_allowed_are_left_alone(self):
        self.assertEqual(self.shared_out([10], [3, 4, 5], [[True, False, True]]), [(0, 0, 3), (0, 2, 5)])
        self.assertEqual(self.shared_out([10], [3, 4, 5], [[False, False, True]]), [(0, 2, 5)])
        self.assertEqual(self.shared_out([10], [3], [[False]]), [])

    def test_each_credit_has_its_own_allowed_bills(self):
        allowed = [[False, True], [True, False], [True, True]]
        self.assertEqual(
            self.shared_out([2, 2, 9], [3, 3], allowed),
            [(0, 1, 2), (1, 0, 2), (2, 0, 1), (2, 1, 1)],
        )

    def test_no_setting_of_nought(self):
        self.assertEqual(self.shared_out([3, 5], [3]), [(0, 0, 3)])
        self.assertEqual(self.shared_out([3], [3, 5]), [(0, 0, 3)])
        self.assertEqual(self.shared_out([1, 1, 1], [1, 1]), [(0, 0, 1), (1, 1, 1)])

    def test_empty_lists(self):
        self.assertEqual(self.shared_out([], []), [])
        self.assertEqual(self.shared_out([], [5]), [])
        self.assertEqual(self.shared_out([5], []), [])

    def test_a_hundred_figures(self):
        self.assertEqual(
            self.shared_out([HUGE + 1, HUGE], [HUGE, HUGE + 7]),
            [(0, 0, HUGE), (0, 1, 1), (1, 1, HUGE)],
        )
        self.assertEqual(self.shared_out([10 ** 130], [1, 10 ** 130]), [(0, 0, 1), (0, 1, 10 ** 130 - 1)])

    def test_long_lists(self):
        self.assertEqual(self.shared_out([70], [1] * 70), [(0, bill, 1) for bill in range(70)])
        self.assertEqual(self.shared_out([1] * 70, [70]), [(credit, 0, 1) for credit in range(70)])

    def test_small_cases_by_the_words_of_the_document(self):
        for frees, lefts, allowed in small_cases():
            made = shared_out(frees, lefts, allowed)
            free, left, expected = list(frees), list(lefts), []
            for credit, bill in itertools.product(range(len(frees)), range(len(lefts))):
                if allowed[credit][bill] and free[credit] and left[bill]:
                    amount = free[credit] if free[credit] < left[bill] else left[bill]
                    free[credit] -= amount
                    left[bill] -= amount
                    expected.append((credit, bill, amount))
            self.assertEqual(made, expected, (frees, lefts, allowed))


if __name__ == "__main__":
    unittest.main()
