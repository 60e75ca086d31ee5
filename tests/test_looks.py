"""Promise 3: looked, mean, most, unlooked."""

import unittest
from fractions import Fraction

from tests.allways import told
from tests.calling import LARGEST, ask, laid, last, some_plans, state


class Looked(unittest.TestCase):
    def test_written_out(self):
        begun = [("begin", 3, 1, 1), ("plan", 1, 2), ("plan", 3, 3), ("plan", 0, 1)]
        self.assertEqual(
            ask(*begun, ("looked", 0), ("looked", 1), ("looked", 2))[-3:], [[0, 5, 6], [0, 1, 2], [0, 0, 1]])

    def test_one_day(self):
        self.assertEqual(last(("begin", 1, 0, 1), ("plan", 0, 9), ("looked", 0)), [0, 0, 1])
        self.assertEqual(last(("begin", 1, 0, 1), ("plan", 1, 9), ("looked", 0)), [0, 1, 1])
        self.assertEqual(last(("begin", 1, 0, 1), ("plan", 1, 1), ("plan", 0, 1000), ("looked", 0)), [0, 1, 1001])

    def test_a_plan_of_all_days_and_one_without_looks(self):
        for day in range(6):
            self.assertEqual(last(("begin", 6, 1, 1), ("plan", 63, 7), ("looked", day)), [0, 1, 1])
            self.assertEqual(last(("begin", 6, 1, 1), ("plan", 0, 7), ("looked", day)), [0, 0, 1])
            heard = last(("begin", 6, 1, 1), ("plan", 0, 7), ("plan", 63, 21), ("looked", day))
            self.assertEqual(heard, [0, 3, 4])

    def test_the_same_set_twice(self):
        begun = [("begin", 2, 1, 1), ("plan", 1, 2), ("plan", 2, 5), ("plan", 1, 3)]
        self.assertEqual(ask(*begun, ("looked", 0), ("looked", 1))[-2:], [[0, 1, 2], [0, 1, 2]])

    def test_two_days_of_which_just_one_is(self):
        begun = [("begin", 2, 1, 1), ("plan", 1, 1), ("plan", 2, 2)]
        self.assertEqual(ask(*begun, ("looked", 0), ("looked", 1))[-2:], [[0, 1, 3], [0, 2, 3]])

    def test_misdeeds_and_fine_are_nothing_to_it(self):
        for misdeeds in (0, 6):
            for fine in (1, 9):
                begun = [("begin", 2, misdeeds, fine), ("plan", 1, 1), ("plan", 2, 2)]
                self.assertEqual(last(*begun, ("looked", 1)), [0, 2, 3])

    def test_every_set_on_every_day(self):
        for days in range(1, 7):
            for each in range(1 << days):
                calls = [("begin", days, 1, 1), ("plan", each, 3), ("plan", 0, 5)]
                heard = ask(*calls, *[("looked", day) for day in range(days)])[3:]
                self.assertEqual(heard, [[0, 3, 8] if each >> day & 1 else [0, 0, 1] for day in range(days)])

    def test_the_best_plan_looks_on_each_day_as_likely(self):
        for days, looks in ((1, 1), (2, 1), (2, 2), (3, 1), (3, 2), (3, 3), (4, 1), (5, 1), (6, 1)):
            for fine in (1, 4, 9):
                calls = [("begin", days, 1, fine), ("fair", looks)]
                heard = ask(*calls, *[("looked", day) for day in range(days)])[2:]
                self.assertEqual(heard, [heard[0]] * days)
                if looks == 1:
                    right = Fraction(1, fine + days)
                    self.assertEqual(heard[0], [0, right.numerator, right.denominator])

    def test_no_such_day(self):
        for days in range(1, 7):
            begun = [("begin", days, 1, 2), ("plan", 1, 3)]
            for day in (days, days + 1, 6, 32, LARGEST):
                self.assertEqual(last(*begun, ("looked", day)), [-22])
                self.assertEqual(state(*begun, ("looked", day)), (days, 1, 2, [(1, 3)]))

    def test_no_plans_goes_first(self):
        for day in (0, 1, 2, LARGEST):
            self.assertEqual(last(("begin", 2, 1, 1), ("looked", day)), [-6])
            self.assertEqual(last(("begin", 2, 1, 1), ("plan", 1, 1), ("drop", 0), ("looked", day)), [-6])


class MeanMostUnlooked(unittest.TestCase):
    ASKED = [("mean",), ("most",), ("unlooked",)]

    def heard(self, *calls):
        return ask(*calls, *self.ASKED)[-3:]

    def check(self, days, plans, mean, most, unlooked):
        for misdeeds in (0, 6):
            for fine in (1, 9):
                heard = self.heard(*laid(days, misdeeds, fine, plans))
                self.assertEqual(heard, [[0] + mean, [most], [0] + unlooked])

    def test_written_out(self):
        self.check(3, [(1, 2), (3, 3), (0, 1)], [4, 3], 2, [1, 6])
        self.check(4, [(15, 1), (10, 2), (1, 3), (0, 4), (7, 5)], [26, 15], 4, [4, 15])

    def test_one_day(self):
        self.check(1, [(0, 9)], [0, 1], 0, [1, 1])
        self.check(1, [(1, 9)], [1, 1], 1, [0, 1])
        self.check(1, [(1, 1), (0, 1000)], [1, 1001], 1, [1000, 1001])

    def test_a_plan_of_all_days_and_one_without_looks(self):
        for days in range(1, 7):
            whole = (1 << days) - 1
            self.check(days, [(whole, 7)], [days, 1], days, [0, 1])
            self.check(days, [(0, 7)], [0, 1], 0, [1, 1])
        self.check(6, [(0, 1), (63, 5)], [5, 1], 6, [1, 6])

    def test_the_same_set_twice(self):
        self.check(2, [(0, 2), (1, 5), (0, 3)], [1, 2], 1, [1, 2])
        self.check(2, [(3, 2), (0, 5), (3, 3)], [1, 1], 2, [1, 2])

    def test_a_day_that_is_surely_looked_at(self):
        self.check(2, [(1, 1), (3, 3)], [7, 4], 2, [0, 1])

    def test_two_days_of_which_just_one_is(self):
        self.check(2, [(1, 1), (2, 2)], [1, 1], 1, [0, 1])

    def test_the_plan_that_has_most_may_stand_anywhere_and_be_light(self):
        self.check(3, [(7, 1), (0, 1000), (4, 1000)], [1003, 2001], 3, [1000, 2001])
        self.check(3, [(0, 1000), (7, 1), (4, 1000)], [1003, 2001], 3, [1000, 2001])
        self.check(3, [(4, 1000), (0, 1000), (7, 1)], [1003, 2001], 3, [1000, 2001])

    def test_every_set(self):
        for each in range(1, 64):
            looks = bin(each).count("1")
            heard = self.heard(("begin", 6, 1, 1), ("plan", each, 3), ("plan", 0, 5))
            self.assertEqual(heard, [told(Fraction(3 * looks, 8)), [looks], [0, 5, 8]])

    def test_the_mean_is_all_days_chances_together(self):
        for days in (1, 2, 3):
            for plans in some_plans(days):
                calls = laid(days, 1, 1, plans) + [("looked", day) for day in range(days)] + [("mean",)]
                heard = ask(*calls)[1 + len(plans):]
                self.assertEqual(told(sum(Fraction(each[1], each[2]) for each in heard[:-1])), heard[-1])

    def test_follows_what_is_changed(self):
        begun = [("begin", 2, 1, 3), ("plan", 0, 1), ("plan", 3, 2)]
        self.assertEqual(self.heard(*begun), [[0, 4, 3], [2], [0, 1, 3]])
        self.assertEqual(self.heard(*begun, ("weight", 1, 3)), [[0, 3, 2], [2], [0, 1, 4]])
        self.assertEqual(self.heard(*begun, ("drop", 1)), [[0, 0, 1], [0], [0, 1, 1]])
        self.assertEqual(self.heard(*begun, ("drop", 0)), [[0, 2, 1], [2], [0, 0, 1]])
        self.assertEqual(self.heard(*begun, ("misdeeds", 5)), [[0, 4, 3], [2], [0, 1, 3]])
        self.assertEqual(self.heard(*begun, ("fine", 7)), [[0, 4, 3], [2], [0, 1, 3]])
        self.assertEqual(self.heard(*begun, ("fair", 1)), [[0, 2, 5], [1], [0, 3, 5]])
        self.assertEqual(self.heard(*begun, ("fine", 7), ("fair", 1)), [[0, 2, 9], [1], [0, 7, 9]])
        self.assertEqual(self.heard(*begun, ("begin", 1, 1, 1)), [[-6]] * 3)
        self.assertEqual(self.heard(*begun, ("begin", 1, 1, 1), ("plan", 1, 5)), [[0, 1, 1], [1], [0, 0, 1]])
        self.assertEqual(self.heard(*begun, ("begin", 7, 1, 1)), [[0, 4, 3], [2], [0, 1, 3]])

    def test_no_plans(self):
        for calls in ([("begin", 2, 1, 1)], [("begin", 2, 1, 1), ("plan", 0, 1), ("drop", 0)]):
            self.assertEqual(self.heard(*calls), [[-6]] * 3)
            self.assertEqual(state(*calls, *self.ASKED), (2, 1, 1, []))

    def test_changes_nothing(self):
        begun = laid(3, 2, 4, [(1, 2), (2, 3), (1, 3)])
        self.assertEqual(state(*begun, *self.ASKED), (3, 2, 4, [(1, 2), (2, 3), (1, 3)]))


if __name__ == "__main__":
    unittest.main()
