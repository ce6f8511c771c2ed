import unittest

from spikebook.ages import place_of

HUGE = 10 ** 99


class PlaceOf(unittest.TestCase):
    def test_not_late(self):
        for late in (-HUGE, -31, -30, -1, 0):
            for limits in ((), (1,), (30,), (1, 2, 3), (30, 60, 90)):
                self.assertEqual(place_of(late, limits), 0, (late, limits))

    def test_late_by_one(self):
        self.assertEqual(place_of(1, ()), 1)
        self.assertEqual(place_of(1, (1,)), 1)
        self.assertEqual(place_of(1, (2,)), 1)
        self.assertEqual(place_of(1, (1, 2)), 1)
        self.assertEqual(place_of(1, (30, 60)), 1)

    def test_each_limit_and_its_neighbours(self):
        limits = (30, 60, 90)
        for place, limit in enumerate(limits, start=1):
            self.assertEqual(place_of(limit - 1, limits), place)
            self.assertEqual(place_of(limit, limits), place)
            self.assertEqual(place_of(limit + 1, limits), place + 1)

    def test_limits_side_by_side(self):
        limits = (1, 2, 3)
        self.assertEqual([place_of(late, limits) for late in range(-1, 6)], [0, 0, 1, 2, 3, 4, 4])

    def test_one_limit(self):
        self.assertEqual([place_of(late, (2,)) for late in (-1, 0, 1, 2, 3, 4)], [0, 0, 1, 1, 2, 2])

    def test_past_the_last_limit(self):
        self.assertEqual(place_of(91, (30, 60, 90)), 4)
        self.assertEqual(place_of(100000, (30, 60, 90)), 4)
        self.assertEqual(place_of(HUGE, (30, 60, 90)), 4)

    def test_no_limits(self):
        for late in (1, 2, 30, HUGE):
            self.assertEqual(place_of(late, ()), 1)

    def test_very_large_numbers(self):
        limits = (HUGE, HUGE + 2, 10 ** 120)
        self.assertEqual(place_of(HUGE - 1, limits), 1)
        self.assertEqual(place_of(HUGE, limits), 1)
        self.assertEqual(place_of(HUGE + 1, limits), 2)
        self.assertEqual(place_of(HUGE + 2, limits), 2)
        self.assertEqual(place_of(HUGE + 3, limits), 3)
        self.assertEqual(place_of(10 ** 120, limits), 3)
        self.assertEqual(place_of(10 ** 120 + 1, limits), 4)

    def test_many_limits(self):
        limits = tuple(range(10, 710, 10))
        self.assertEqual(place_of(600, limits), 60)
        self.assertEqual(place_of(601, limits), 61)
        self.assertEqual(place_of(700, limits), 70)
        self.assertEqual(place_of(701, limits), 71)

    def test_limits_stay_as_they_are(self):
        limits = (30, 60)
        for late in (-1, 0, 30, 31, 60, 61):
            first = place_of(late, limits)
            self.assertEqual(limits, (30, 60))
            self.assertEqual(place_of(late, limits), first)

    def test_the_place_is_a_whole_number(self):
        for late in (-1, 0, 1, 31):
            self.assertIs(type(place_of(late, (30,))), int)


if __name__ == "__main__":
    unittest.main()
