import unittest

from spikebook.errors import (
    Needed,
    NoAmount,
    NoBill,
    NoCredit,
    NoSetting,
    NotTheirs,
    Refusal,
    TooEarly,
    TooMuch,
)

TEXTS = (
    (NoCredit, "no credit"),
    (NoBill, "no bill"),
    (NotTheirs, "not theirs"),
    (NoAmount, "no amount"),
    (TooEarly, "too early"),
    (TooMuch, "too much"),
    (NoSetting, "no setting"),
    (Needed, "needed"),
)


class Refusals(unittest.TestCase):
    def test_each_has_its_text(self):
        for kind, text in TEXTS:
            self.assertEqual(kind().text, text)
            self.assertEqual(str(kind()), text)

    def test_each_is_taken_by_its_own_name(self):
        for kind, text in TEXTS:
            with self.assertRaises(kind) as caught:
                raise kind()
            self.assertEqual(caught.exception.text, text)

    def test_each_is_taken_as_a_refusal(self):
        for kind, text in TEXTS:
            with self.assertRaises(Refusal) as caught:
                raise kind()
            self.assertEqual(caught.exception.text, text)

    def test_none_is_taken_for_another(self):
        for kind, _ in TEXTS:
            for other, _ in TEXTS:
                self.assertEqual(isinstance(kind(), other), kind is other)


if __name__ == "__main__":
    unittest.main()
