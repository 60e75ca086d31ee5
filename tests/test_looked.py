"""Promise 3: looked."""

import unittest
from fractions import Fraction

from tests.calling import LARGEST, ask, last, state


class Looked(unittest.TestCase):
    def test_written_out(self):
        begun = [("begin", 3, 1, 1), ("plan", 1, 2), ("plan", 3, 3), ("plan", 0, 1)]
        self.assertEqual(
            ask(*begun, ("looked", 0), ("looked", 1), ("looked", 2))[-3:], [[0, 5, 6], [0, 1, 2], [0, 0, 1]])

    def test_one_day(self):
        self.assertEqual(last(("begin", 1, 0, 1), ("plan", 0, 9), ("looked", 0)), [0, 0, 1])
        self.assertEqual(last(("begin", 1, 0, 1), ("plan", 1, 9), ("looked", 0)), [0, 1, 1])
        self.assertEqual(last(("begin", 1, 0, 1), ("plan", 1, 1), ("plan", 0, 1000), ("looked", 0)), [0, 1, 1001])

    def test_a_plan_of_all_days_and_one_without_looks(self):
        for day in range(6):
            self.assertEqual(last(("begin", 6, 1, 1), ("plan", 63, 7), ("looked", day)), [0, 1, 1])
            self.assertEqual(last(("begin", 6, 1, 1), ("plan", 0, 7), ("looked", day)), [0, 0, 1])
            heard = last(("begin", 6, 1, 1), ("plan", 0, 7), ("plan", 63, 21), ("looked", day))
            self.assertEqual(heard, [0, 3, 4])

    def test_the_same_set_twice(self):
        begun = [("begin", 2, 1, 1), ("plan", 1, 2), ("plan", 2, 5), ("plan", 1, 3)]
        self.assertEqual(ask(*begun, ("looked", 0), ("looked", 1))[-2:], [[0, 1, 2], [0, 1, 2]])

    def test_two_days_of_which_just_one_is(self):
        begun = [("begin", 2, 1, 1), ("plan", 1, 1), ("plan", 2, 2)]
        self.assertEqual(ask(*begun, ("looked", 0), ("looked", 1))[-2:], [[0, 1, 3], [0, 2, 3]])

    def test_misdeeds_and_fine_are_nothing_to_it(self):
        for misdeeds in (0, 6):
            for fine in (1, 9):
                begun = [("begin", 2, misdeeds, fine), ("plan", 1, 1), ("plan", 2, 2)]
                self.assertEqual(last(*begun, ("looked", 1)), [0, 2, 3])

    def test_every_set_on_every_day(self):
        for days in range(1, 7):
            for each in range(1 << days):
                calls = [("begin", days, 1, 1), ("plan", each, 3), ("plan", 0, 5)]
                heard = ask(*calls, *[("looked", day) for day in range(days)])[3:]
                self.assertEqual(heard, [[0, 3, 8] if each >> day & 1 else [0, 0, 1] for day in range(days)])

    def test_the_best_plan_looks_on_each_day_as_likely(self):
        for days, looks in ((1, 1), (2, 1), (2, 2), (3, 1), (3, 2), (3, 3), (4, 1), (5, 1), (6, 1)):
            for fine in (1, 4, 9):
                calls = [("begin", days, 1, fine), ("fair", looks)]
                heard = ask(*calls, *[("looked", day) for day in range(days)])[2:]
                self.assertEqual(heard, [heard[0]] * days)
                if looks == 1:
                    right = Fraction(1, fine + days)
                    self.assertEqual(heard[0], [0, right.numerator, right.denominator])

    def test_no_such_day(self):
        for days in range(1, 7):
            begun = [("begin", days, 1, 2), ("plan", 1, 3)]
            for day in (days, days + 1, 6, 32, LARGEST):
                self.assertEqual(last(*begun, ("looked", day)), [-22])
                self.assertEqual(state(*begun, ("looked", day)), (days, 1, 2, [(1, 3)]))

    def test_no_plans_goes_first(self):
        for day in (0, 1, 2, LARGEST):
            self.assertEqual(last(("begin", 2, 1, 1), ("looked", day)), [-6])
            self.assertEqual(last(("begin", 2, 1, 1), ("plan", 1, 1), ("drop", 0), ("looked", day)), [-6])


if __name__ == "__main__":
    unittest.main()
