"""What is told and set, from the beginning on: bills, credits, settings by hand and sweeps."""

from spikebook.errors import NoAmount, NoBill, NoCredit, NotTheirs, TooEarly, TooMuch
from spikebook.items import Bill, Credit, bills_in_order, credits_in_order, fits
from spikebook.sweeping import alike, shared_out


class Work:
    """Bills and credits by their numbers, what is left and free of each, and the settings as they were made."""

    def __init__(self):
        self.bills = []
        self.all_credits = []
        self.lefts = []
        self.frees = []
        self.made = []

    def tell_bill(self, who, day, due, amount):
        """A bill is told; its number."""
        check_amount(amount)
        if due < day:
            raise TooEarly()
        number = len(self.bills)
        self.bills.append(Bill(number, who, day, due, amount))
        self.lefts.append(amount)
        return number

    def tell_payment(self, who, day, amount):
        """A payment is told; the credit's number."""
        return self.tell_credit(who, day, amount, None)

    def tell_note(self, bill_number, day, amount):
        """A note on a bill is told; the credit's number."""
        bill = self.bill_at(bill_number)
        return self.tell_credit(bill.who, day, amount, bill_number)

    def tell_credit(self, who, day, amount, only):
        """A credit is told, a payment where `only` is None; its number."""
        check_amount(amount)
        number = len(self.all_credits)
        self.all_credits.append(Credit(number, who, day, amount, only))
        self.frees.append(amount)
        return number

    def set_by_hand(self, credit_number, bill_number, amount):
        """A setting is made by hand; the amount."""
        credit = self.credit_at(credit_number)
        bill = self.bill_at(bill_number)
        if not fits(credit, bill):
            raise NotTheirs()
        check_amount(amount)
        if amount > self.frees[credit_number] or amount > self.lefts[bill_number]:
            raise TooMuch()
        self.put(credit_number, bill_number, amount)
        return amount

    def sweep(self, who):
        """A sweep for a person; the list of its settings."""
        first = self.one_round(who, alike)
        # The second round looks anew, so that what the first has used up is no longer among its bills and credits.
        second = self.one_round(who, shared_out)
        return first + second

    def one_round(self, who, way):
        """Make the settings that the way of a round finds for a person; the list of them."""
        givers = [credit for credit in credits_in_order(self.all_credits, who) if self.frees[credit.number] > 0]
        takers = [bill for bill in bills_in_order(self.bills, who) if self.lefts[bill.number] > 0]
        frees = [self.frees[credit.number] for credit in givers]
        lefts = [self.lefts[bill.number] for bill in takers]
        found = way(frees, lefts, [row_of_fits(credit, takers) for credit in givers])
        numbered = [(givers[giver].number, takers[taker].number, amount) for giver, taker, amount in found]
        for credit_number, bill_number, amount in numbered:
            self.put(credit_number, bill_number, amount)
        return numbered

    def put(self, credit_number, bill_number, amount):
        """Write a setting down that is known to be right."""
        self.frees[credit_number] = self.frees[credit_number] - amount
        self.lefts[bill_number] = self.lefts[bill_number] - amount
        self.made.append((credit_number, bill_number, amount))

    def credit_at(self, number):
        """The credit with this number."""
        # A number below nought would else be counted from the list's end.
        if number < 0 or number >= len(self.all_credits):
            raise NoCredit()
        return self.all_credits[number]

    def bill_at(self, number):
        """The bill with this number."""
        if number < 0 or number >= len(self.bills):
            raise NoBill()
        return self.bills[number]


def check_amount(amount):
    """Refuse an amount below one."""
    if amount < 1:
        raise NoAmount()


def row_of_fits(credit, bills):
    """For each of the bills, whether the credit can be set against it."""
    return [fits(credit, bill) for bill in bills]
