"""The refusals of deeds: one error class for each, with the text that answers the deed."""


class Refusal(Exception):
    """What all refusals have in common, so that whoever answers deeds can take them together."""

    def __init__(self, text):
        Exception.__init__(self, text)
        self.text = text


class NoCredit(Refusal):
    """There is no credit with this number."""

    def __init__(self):
        Refusal.__init__(self, "no credit")


class NoBill(Refusal):
    """There is no bill with this number."""

    def __init__(self):
        Refusal.__init__(self, "no bill")


class NotTheirs(Refusal):
    """The credit can't be set against the bill."""

    def __init__(self):
        Refusal.__init__(self, "not theirs")


class NoAmount(Refusal):
    """An amount is below one."""

    def __init__(self):
        Refusal.__init__(self, "no amount")


class TooEarly(Refusal):
    """A bill is due on a day earlier than its own."""

    def __init__(self):
        Refusal.__init__(self, "too early")


class TooMuch(Refusal):
    """More is to be set than is free of the credit or left of the bill."""

    def __init__(self):
        Refusal.__init__(self, "too much")


class NoSetting(Refusal):
    """No deed with this number is a setting by hand or a sweep in force."""

    def __init__(self):
        Refusal.__init__(self, "no setting")


class Needed(Refusal):
    """A later setting by hand would find less free or less left than it sets."""

    def __init__(self):
        Refusal.__init__(self, "needed")
