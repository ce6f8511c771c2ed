import unittest

from spikebook.items import Bill, Credit, bills_in_order, counts_from, credits_in_order, fits


def numbers(told):
    return [item.number for item in told]


class Told(unittest.TestCase):
    def test_a_bill_keeps_what_is_told(self):
        bill = Bill(3, "Ann", -2, 7, 40)
        self.assertEqual((bill.number, bill.who, bill.day, bill.due, bill.amount), (3, "Ann", -2, 7, 40))

    def test_a_credit_keeps_what_is_told(self):
        credit = Credit(4, "Ann", -2, 40, 3)
        self.assertEqual((credit.number, credit.who, credit.day, credit.amount, credit.only), (4, "Ann", -2, 40, 3))


class Fits(unittest.TestCase):
    def test_a_payment_fits_any_bill_of_its_person(self):
        payment = Credit(0, "Ann", 0, 1, None)
        for number in (0, 1, 70):
            self.assertIs(fits(payment, Bill(number, "Ann", 9, 9, 5)), True)

    def test_a_payment_fits_no_bill_of_another_person(self):
        for who, other in (("Ann", "Bob"), ("", "Ann"), ("Ann", ""), ("Ann", "ann"), ("Ann", "Ann ")):
            self.assertIs(fits(Credit(0, who, 0, 1, None), Bill(0, other, 0, 0, 1)), False)

    def test_a_note_fits_its_bill_alone(self):
        note = Credit(2, "Ann", 0, 1, 1)
        self.assertEqual([fits(note, Bill(number, "Ann", 0, 0, 1)) for number in range(4)], [False, True, False, False])

    def test_a_note_on_the_bill_numbered_nought(self):
        note = Credit(0, "Ann", 0, 1, 0)
        self.assertIs(fits(note, Bill(0, "Ann", 0, 0, 1)), True)
        self.assertIs(fits(note, Bill(1, "Ann", 0, 0, 1)), False)


class CountsFrom(unittest.TestCase):
    def test_the_later_of_the_two_days(self):
        for credit_day, bill_day, later in ((1, 2, 2), (2, 1, 2), (3, 3, 3), (-5, -4, -4), (-10 ** 60, 0, 0)):
            credit = Credit(0, "Ann", credit_day, 1, None)
            self.assertEqual(counts_from(credit, Bill(0, "Ann", bill_day, bill_day + 9, 1)), later)


class Order(unittest.TestCase):
    def test_bills_by_due_day_and_then_by_number(self):
        bills = [
            Bill(0, "Ann", 0, 9, 1),
            Bill(1, "Ann", 5, 5, 1),
            Bill(2, "Ann", -4, 9, 1),
            Bill(3, "Ann", -9, -3, 1),
            Bill(4, "Ann", 1, 5, 1),
        ]
        self.assertEqual(numbers(bills_in_order(bills, "Ann")), [3, 1, 4, 0, 2])
        self.assertEqual(numbers(bills), [0, 1, 2, 3, 4])

    def test_credits_by_day_and_then_by_number(self):
        told = [
            Credit(0, "Ann", 3, 9, None),
            Credit(1, "Ann", 2, 5, 0),
            Credit(2, "Ann", -2, 7, None),
            Credit(3, "Ann", 2, 1, None),
            Credit(4, "Ann", 3, 2, 0),
        ]
        self.assertEqual(numbers(credits_in_order(told, "Ann")), [2, 1, 3, 0, 4])
        self.assertEqual(numbers(told), [0, 1, 2, 3, 4])

    def test_those_of_other_persons_are_left_out(self):
        whos = ("Ann", "", "ann", "Ann", "Bob")
        bills = [Bill(number, who, 0, 0, 1) for number, who in enumerate(whos)]
        told = [Credit(number, who, 0, 1, None) for number, who in enumerate(whos)]
        for who, expected in (("Ann", [0, 3]), ("", [1]), ("ann", [2]), ("Bob", [4]), ("Cleo", [])):
            self.assertEqual(numbers(bills_in_order(bills, who)), expected)
            self.assertEqual(numbers(credits_in_order(told, who)), expected)


if __name__ == "__main__":
    unittest.main()
