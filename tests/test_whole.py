"""What the document promises over the whole program, over many lists of deeds of small and large numbers."""

import copy
import random
import unittest

from spikebook.day import answers, settings

CHANGES = ("bill", "pay", "note", "set", "sweep")


class Plain:
    """The document word by word: nothing is kept but the deeds done, and all is done again for each question."""

    def __init__(self):
        self.force = []
        self.count = 0

    def answer(self, deed):
        number = self.count
        self.count += 1
        if deed[0] == "undo":
            return self.undo(deed[1])
        if deed[0] in CHANGES:
            told = self.redo(self.force + [(number, deed)])[3]
            if not isinstance(told, str):
                self.force.append((number, deed))
            return told
        return self.question(deed)

    def undo(self, number):
        if not [1 for at, deed in self.force if at == number and deed[0] in ("set", "sweep")]:
            return "no setting"
        rest = [(at, deed) for at, deed in self.force if at != number]
        for length in range(len(rest) + 1):
            if self.redo(rest[:length])[3] == "too much":
                return "needed"
        self.force = rest
        return "undone"

    def redo(self, force):
        """The bills, the credits, the settings, and the answer of the last deed."""
        bills, given, made, told = [], [], [], None
        for _, deed in force:
            told = self.once(deed, bills, given, made)
        return bills, given, made, told

    def once(self, deed, bills, given, made):
        if deed[0] == "bill":
            if deed[4] < 1:
                return "no amount"
            if deed[3] < deed[2]:
                return "too early"
            bills.append(deed[1:])
            return len(bills) - 1
        if deed[0] == "pay":
            if deed[3] < 1:
                return "no amount"
            given.append((deed[1], deed[2], deed[3], None))
            return len(given) - 1
        if deed[0] == "note":
            if deed[1] not in range(len(bills)):
                return "no bill"
            if deed[3] < 1:
                return "no amount"
            given.append((bills[deed[1]][0], deed[2], deed[3], deed[1]))
            return len(given) - 1
        if deed[0] == "set":
            told = self.refusal(deed, bills, given, made)
            if told is None:
                made.append(deed[1:])
                return deed[3]
            return told
        return self.sweep(deed[1], bills, given, made)

    def refusal(self, deed, bills, given, made):
        _, credit, bill, amount = deed
        if credit not in range(len(given)):
            return "no credit"
        if bill not in range(len(bills)):
            return "no bill"
        if not self.can(credit, bill, bills, given):
            return "not theirs"
        if amount < 1:
            return "no amount"
        if self.free(credit, given, made) < amount or self.left(bill, bills, made) < amount:
            return "too much"
        return None

    def can(self, credit, bill, bills, given):
        return given[credit][0] == bills[bill][0] and given[credit][3] in (None, bill)

    def free(self, credit, given, made):
        return given[credit][2] - sum(each[2] for each in made if each[0] == credit)

    def left(self, bill, bills, made):
        return bills[bill][3] - sum(each[2] for each in made if each[1] == bill)

    def ordered(self, who, bills, given):
        of_bills = sorted((bills[at][2], at) for at in range(len(bills)) if bills[at][0] == who)
        of_given = sorted((given[at][1], at) for at in range(len(given)) if given[at][0] == who)
        return [at for _, at in of_bills], [at for _, at in of_given]

    def sweep(self, who, bills, given, made):
        of_bills, of_given = self.ordered(who, bills, given)
        before = len(made)
        for credit in of_given:
            for bill in of_bills:
                free, left = self.free(credit, given, made), self.left(bill, bills, made)
                met = [each for each in made[before:] if each[1] == bill]
                if self.can(credit, bill, bills, given) and free == left > 0 and not met:
                    made.append((credit, bill, free))
                    break
        for credit in of_given:
            for bill in of_bills:
                amount = min(self.free(credit, given, made), self.left(bill, bills, made))
                if self.can(credit, bill, bills, given) and amount > 0:
                    made.append((credit, bill, amount))
        return made[before:]

    def question(self, deed):
        bills, given, made, _ = self.redo(self.force)
        of_bills, of_given = self.ordered(deed[1], bills, given)
        day = deed[2]
        made = [each for each in made if given[each[0]][1] <= day and bills[each[1]][1] <= day]
        if deed[0] == "free":
            told = [(at, self.free(at, given, made)) for at in of_given if given[at][1] <= day]
            return [each for each in told if each[1] > 0]
        told = [(at, self.left(at, bills, made)) for at in of_bills if bills[at][1] <= day]
        owed = [each for each in told if each[1] > 0]
        if deed[0] == "owed":
            return owed
        lates = [(day - bills[at][2], left) for at, left in owed]
        sums = [sum(left for late, left in lates if late <= 0)]
        for low, high in zip((0,) + deed[3], deed[3]):
            sums.append(sum(left for late, left in lates if low < late <= high))
        top = ((0,) + deed[3])[-1]
        return sums + [sum(left for late, left in lates if late > top)]


def plain_answers(deeds):
    plain = Plain()
    return [plain.answer(deed) for deed in deeds], [tuple(each) for each in plain.redo(plain.force)[2]]


WHOS = ("Ann", "Bob", "")
LIMITS = ((), (1,), (2,), (1, 2), (1, 3, 4))


def one_deed(chance, number, largest):
    """A deed of small numbers, so that amounts often come out alike and numbers are often there."""
    who = chance.choice(WHOS[:chance.choice((1, 1, 2, 3))])
    day = chance.randint(-2, 4)
    amount = chance.randint(0, largest)
    kind = chance.choice((
        "bill", "bill", "bill", "pay", "pay", "pay", "note", "set", "set", "set", "set", "sweep", "sweep", "undo",
        "undo", "owed", "free", "ages",
    ))
    if kind == "bill":
        return ("bill", who, day, day + chance.randint(-1, 4), amount)
    if kind == "pay":
        return ("pay", who, day, amount)
    if kind == "note":
        return ("note", chance.randint(-1, number // 4), day, amount)
    if kind == "set":
        return ("set", chance.randint(-1, number // 4), chance.randint(-1, number // 4), amount)
    if kind == "sweep":
        return ("sweep", who)
    if kind == "undo":
        return ("undo", chance.randint(-1, number + 1))
    if kind == "ages":
        return ("ages", who, day + chance.randint(0, 4), chance.choice(LIMITS))
    return (kind, who, day)


STAGES = ("bill", "bill", "pay", "pay", "set", "set", "sweep", "bill", "pay", "set", "set", "sweep", "bill", "set")


def one_good_deed(chance, kind, behind):
    """A deed of one person that is not refused, where a setting can be made at all, and takes much then."""
    if kind == "bill":
        return ("bill", "Ann", 0, chance.randint(0, 9), chance.randint(2, 9))
    if kind == "pay":
        return ("pay", "Ann", chance.randint(0, 9), chance.randint(2, 9))
    if kind == "sweep":
        return ("sweep", "Ann")
    owed, free = plain_answers(behind + [("owed", "Ann", 9), ("free", "Ann", 9)])[0][-2:]
    if not owed or not free:
        return ("owed", "Ann", 9)
    bill, left = chance.choice(owed)
    credit, still_free = chance.choice(free)
    return ("set", credit, bill, chance.choice((1, min(left, still_free))))


def many_undoings(many, seed):
    """Settings by hand and sweeps that hang on one another, and then undoings of them in any order."""
    chance = random.Random(seed)
    for _ in range(many):
        deeds = []
        for kind in STAGES:
            deeds.append(one_good_deed(chance, kind, deeds))
        made = [number for number, deed in enumerate(deeds) if deed[0] in ("set", "sweep")]
        chance.shuffle(made)
        yield deeds + [("undo", number) for number in made + made] + [("sweep", "Ann")]


def many_lists(many, longest, largest, seed):
    chance = random.Random(seed)
    for _ in range(many):
        length = chance.randint(0, longest)
        yield [one_deed(chance, number, largest) for number in range(length)]


def told_bills_and_credits(deeds):
    """All bills as (who, day, amount), all credits as (who, day, amount)."""
    bills, given = [], []
    for deed, told in zip(deeds, answers(deeds)):
        if isinstance(told, str):
            continue
        if deed[0] == "bill":
            bills.append((deed[1], deed[2], deed[4]))
        if deed[0] == "pay":
            given.append((deed[1], deed[2], deed[3]))
        if deed[0] == "note":
            given.append((bills[deed[1]][0], deed[2], deed[3]))
    return bills, given


class TheWhole(unittest.TestCase):
    def test_word_by_word(self):
        met = {}
        lists = list(many_lists(500, 40, 4, "short")) + list(many_lists(20, 120, 9, "long"))
        for deeds in lists + list(many_undoings(200, "undoings")):
            before = copy.deepcopy(deeds)
            told, made = plain_answers(deeds)
            self.assertEqual(answers(deeds), told, deeds)
            self.assertEqual(settings(deeds), made, deeds)
            self.assertEqual(deeds, before)
            for each in told:
                if isinstance(each, str):
                    met[each] = met.get(each, 0) + 1
        # The lists are only worth something if they come to every refusal, and to it often.
        for text in (
            "no credit", "no bill", "not theirs", "no amount", "too early", "too much", "no setting", "needed",
            "undone",
        ):
            self.assertGreater(met.get(text, 0), 20, text)

    def test_nothing_is_lost(self):
        for deeds in many_lists(150, 40, 5, "lost"):
            bills, given = told_bills_and_credits(deeds)
            for who in WHOS:
                for day in range(-3, 6):
                    told = answers(deeds + [("owed", who, day), ("free", who, day), ("ages", who, day, (1, 2))])[-3:]
                    owed, free = sum(left for _, left in told[0]), sum(left for _, left in told[1])
                    billed = sum(amount for name, at, amount in bills if name == who and at <= day)
                    paid = sum(amount for name, at, amount in given if name == who and at <= day)
                    self.assertEqual(owed - free, billed - paid, (deeds, who, day))
                    self.assertEqual(sum(told[2]), owed)

    def test_nothing_is_set_twice(self):
        for deeds in many_lists(300, 40, 5, "twice"):
            bills, given = told_bills_and_credits(deeds)
            for credit, bill, amount in settings(deeds):
                self.assertGreaterEqual(amount, 1)
                self.assertEqual(given[credit][0], bills[bill][0])
            for number, (_, _, whole) in enumerate(bills):
                self.assertLessEqual(sum(each[2] for each in settings(deeds) if each[1] == number), whole)
            for number, (_, _, whole) in enumerate(given):
                self.assertLessEqual(sum(each[2] for each in settings(deeds) if each[0] == number), whole)

    def test_what_is_undone_is_as_if_it_had_never_been_made(self):
        asked = [(kind, who, day) for kind in ("owed", "free") for who in WHOS for day in range(-3, 6)]
        undone = 0
        for deeds in many_lists(150, 25, 4, "undone"):
            deeds = [deed for deed in deeds if deed[0] != "undo"]
            for number, deed in enumerate(deeds):
                if deed[0] not in ("set", "sweep"):
                    continue
                told = answers(deeds + [("undo", number)] + asked)
                if told[len(deeds)] != "undone":
                    continue
                undone += 1
                # Refused deeds of the list stay refused, so they are left out where the list is done without the one.
                done = [each for each, answer in zip(deeds, told) if not isinstance(answer, str)]
                place = len([1 for answer in told[:number] if not isinstance(answer, str)])
                without = done[:place] + done[place + 1:]
                self.assertEqual(told[len(deeds) + 1:], answers(without + asked)[len(without):])
                self.assertEqual(settings(deeds + [("undo", number)]), settings(without))
        self.assertGreater(undone, 100)

    def test_a_sweep_leaves_nothing_that_it_could_still_set(self):
        for deeds in many_lists(200, 40, 5, "sweeps"):
            for who in WHOS:
                swept = deeds + [("sweep", who), ("sweep", who)]
                self.assertEqual(answers(swept)[-1], [])
                owed, free = answers(swept + [("owed", who, 99), ("free", who, 99)])[-2:]
                for bill, _ in owed:
                    for credit, _ in free:
                        self.assertEqual(answers(swept + [("set", credit, bill, 1)])[-1], "not theirs")

    def test_larger_numbers_tell_the_same(self):
        # All amounts and all days times one large number: so all answers must come out times it.
        large = 10 ** 99 + 7
        for deeds in many_lists(100, 40, 4, "large"):
            grown = [self.grown(deed, large) for deed in deeds]
            told = [self.grown_answer(deed, answer, large) for deed, answer in zip(deeds, answers(deeds))]
            self.assertEqual(answers(grown), told)
            self.assertEqual(settings(grown), [(each[0], each[1], each[2] * large) for each in settings(deeds)])

    def grown(self, deed, large):
        kind = deed[0]
        if kind == "bill":
            return (kind, deed[1], deed[2] * large, deed[3] * large, deed[4] * large)
        if kind in ("pay", "note"):
            return (kind, deed[1], deed[2] * large, deed[3] * large)
        if kind == "set":
            return (kind, deed[1], deed[2], deed[3] * large)
        if kind == "ages":
            return (kind, deed[1], deed[2] * large, tuple(limit * large for limit in deed[3]))
        if kind in ("owed", "free"):
            return (kind, deed[1], deed[2] * large)
        return deed

    def grown_answer(self, deed, answer, large):
        if isinstance(answer, str) or deed[0] in ("bill", "pay", "note"):
            return answer
        if deed[0] == "set":
            return answer * large
        if deed[0] == "ages":
            return [each * large for each in answer]
        return [each[:-1] + (each[-1] * large,) for each in answer]


if __name__ == "__main__":
    unittest.main()
