"""Promise 4: worth, over, bestchance, bestlooked."""

import unittest
from fractions import Fraction
from math import comb

from tests.allways import best_gains, told
from tests.calling import LARGEST, ask, laid, last, some_plans, state


def best_plan(days, looks, fine):
    sets = [each for each in range(1 << days) if bin(each).count("1") <= looks]
    return [(each, fine ** (looks - bin(each).count("1"))) for each in sets]


def best_weight(days, looks, fine):
    return sum(comb(days, few) * fine ** (looks - few) for few in range(looks + 1))


def known_worth(days, looks, misdeeds, fine):
    """What is known of the best plan by counting; the document doesn't tell it."""
    above = comb(days, looks + 1) - comb(max(days - misdeeds, 0), looks + 1)
    return Fraction(above, best_weight(days, looks, fine))


class Worth(unittest.TestCase):
    def check(self, days, misdeeds, fine, looks, right):
        self.assertEqual(last(("begin", days, misdeeds, fine), ("worth", looks)), [0] + right)

    def test_written_out(self):
        self.check(2, 1, 1, 1, [1, 3])
        self.check(2, 1, 2, 1, [1, 4])
        self.check(3, 1, 4, 1, [2, 7])
        self.check(3, 2, 4, 1, [3, 7])
        self.check(3, 1, 1, 2, [1, 7])
        self.check(6, 2, 9, 1, [3, 5])
        self.check(6, 6, 1, 3, [5, 14])

    def test_one_day(self):
        for fine in (1, 9):
            for misdeeds in (1, 6):
                self.check(1, misdeeds, fine, 0, [1, 1])
                self.check(1, misdeeds, fine, 1, [0, 1])

    def test_no_misdeeds(self):
        for days in range(1, 7):
            for looks in range(days + 1):
                self.check(days, 0, 1, looks, [0, 1])

    def test_no_looks_and_looks_on_all_days(self):
        for days in range(1, 7):
            for misdeeds in range(1, 7):
                self.check(days, misdeeds, 3, 0, [min(days, misdeeds), 1])
                self.check(days, misdeeds, 3, days, [0, 1])

    def test_all_that_can_be_told(self):
        for days in range(1, 7):
            for looks in range(days + 1):
                for misdeeds in range(7):
                    for fine in range(1, 10):
                        right = told(known_worth(days, looks, misdeeds, fine))
                        self.check(days, misdeeds, fine, looks, right[1:])

    def test_every_way_to_play(self):
        for days in (1, 2, 3):
            for looks in range(days + 1):
                for misdeeds in (0, 1, 2, 4):
                    for fine in (1, 2, 9):
                        right = max(best_gains(days, misdeeds, fine, best_plan(days, looks, fine)))
                        self.check(days, misdeeds, fine, looks, told(right)[1:])
        self.check(4, 2, 1, 2, told(max(best_gains(4, 2, 1, best_plan(4, 2, 1))))[1:])

    def test_is_the_reply_to_fair(self):
        for days, looks in ((1, 0), (1, 1), (2, 1), (2, 2), (3, 1), (3, 2), (3, 3), (4, 1), (5, 1), (6, 0), (6, 1)):
            for misdeeds in range(7):
                calls = [("begin", days, misdeeds, 2), ("fair", looks), ("reply",), ("worth", looks)]
                heard = ask(*calls)
                self.assertEqual(heard[-1], heard[-2])

    def test_where_fair_has_too_many_sets(self):
        heard = ask(("begin", 6, 1, 2), ("fair", 3), ("worth", 3), ("begin", 4, 4, 1), ("fair", 2), ("worth", 2))
        self.assertEqual(heard, [[0], [-28], [0, 5, 41], [0], [-28], [0, 4, 11]])

    def test_the_plans_told_are_nothing_to_it(self):
        begun = [("begin", 3, 2, 4), ("plan", 7, 1000), ("plan", 0, 3)]
        self.assertEqual(last(*begun, ("worth", 1)), [0, 3, 7])
        self.assertEqual(last(*begun, ("weight", 1, 9), ("drop", 0), ("worth", 1)), [0, 3, 7])
        self.assertEqual(last(*begun, ("fair", 2), ("worth", 1)), [0, 3, 7])

    def test_follows_misdeeds_fine_and_begin(self):
        begun = [("begin", 3, 2, 4)]
        self.assertEqual(last(*begun, ("misdeeds", 1), ("worth", 1)), [0, 2, 7])
        self.assertEqual(last(*begun, ("fine", 1), ("worth", 1)), [0, 3, 4])
        self.assertEqual(last(*begun, ("begin", 2, 1, 1), ("worth", 1)), [0, 1, 3])
        self.assertEqual(last(*begun, ("begin", 2, 1, 1), ("worth", 3)), [-22])

    def test_refused(self):
        for days in range(1, 7):
            for plans in ([], [(1, 3)]):
                begun = laid(days, 1, 2, plans)
                for looks in (days + 1, 7, 64, LARGEST):
                    self.assertEqual(last(*begun, ("worth", looks)), [-22])
                    self.assertEqual(state(*begun, ("worth", looks)), (days, 1, 2, plans))

    def test_changes_nothing(self):
        begun = laid(3, 2, 4, [(1, 2), (2, 3)])
        self.assertEqual(state(*begun, ("worth", 3)), (3, 2, 4, [(1, 2), (2, 3)]))


class Over(unittest.TestCase):
    def check(self, days, misdeeds, fine, plans, right):
        self.assertEqual(last(*laid(days, misdeeds, fine, plans), ("over",)), [0] + right)

    def test_written_out(self):
        self.check(3, 1, 1, [(1, 2), (2, 3), (6, 1)], [11, 21])
        self.check(2, 1, 1, [(0, 1000), (3, 1)], [1000, 1001])

    def test_one_day(self):
        self.check(1, 1, 1, [(0, 3)], [0, 1])
        self.check(1, 1, 1, [(1, 3)], [0, 1])
        self.check(1, 1, 2, [(0, 5), (1, 1)], [1, 2])
        self.check(1, 1, 5, [(0, 5), (1, 1)], [0, 1])

    def test_no_misdeeds(self):
        self.check(3, 0, 1, [(0, 1), (5, 2)], [0, 1])

    def test_more_misdeeds_than_days(self):
        self.check(2, 3, 1, [(0, 2), (2, 1)], [1, 1])
        self.check(2, 6, 9, [(0, 3)], [0, 1])

    def test_a_plan_without_looks_and_one_of_all_days(self):
        for days in range(1, 7):
            for misdeeds in range(7):
                self.check(days, misdeeds, 1, [(0, 7)], [0, 1])
                self.check(days, misdeeds, 1, [((1 << days) - 1, 7)], [0, 1])
        self.check(6, 6, 9, [(0, 1), (63, 1)], [5, 2])

    def test_the_same_set_twice(self):
        self.check(1, 1, 1, [(1, 1), (0, 2), (0, 3)], [2, 3])
        self.check(1, 1, 1, [(1, 2), (1, 3), (0, 5)], [0, 1])

    def test_a_day_that_is_surely_looked_at(self):
        self.check(2, 1, 1, [(1, 4)], [2, 3])

    def test_two_days_of_which_just_one_is(self):
        self.check(2, 1, 1, [(1, 1), (2, 1)], [1, 6])
        self.check(2, 1, 1, [(1, 1), (2, 2)], [0, 1])
        self.check(2, 1, 1, [(1, 1), (2, 3)], [1, 6])

    def test_is_the_reply_less_the_worth(self):
        for days in (1, 2, 3):
            for turn, plans in enumerate(some_plans(days)):
                misdeeds = turn % 5
                fine = (1, 2, 4, 9)[turn % 4]
                most = max(bin(each).count("1") for each, weight in plans)
                right = max(best_gains(days, misdeeds, fine, plans)) - known_worth(days, most, misdeeds, fine)
                self.check(days, misdeeds, fine, plans, told(right)[1:])

    def test_six_days(self):
        for fine in (1, 9):
            for misdeeds in range(1, 7):
                right = 1 - known_worth(6, 5, misdeeds, fine)
                self.check(6, misdeeds, fine, [(31, 4)], told(right)[1:])

    def test_follows_what_is_changed(self):
        begun = [("begin", 2, 1, 1), ("plan", 1, 1), ("plan", 2, 1)]
        self.assertEqual(last(*begun, ("over",)), [0, 1, 6])
        self.assertEqual(last(*begun, ("weight", 1, 2), ("over",)), [0, 0, 1])
        self.assertEqual(last(*begun, ("drop", 0), ("over",)), [0, 2, 3])
        self.assertEqual(last(*begun, ("misdeeds", 0), ("over",)), [0, 0, 1])
        self.assertEqual(last(*begun, ("fine", 2), ("over",)), [0, 1, 4])
        self.assertEqual(last(*begun, ("plan", 3, 2), ("over",)), [0, 0, 1])
        self.assertEqual(last(*begun, ("fair", 1), ("over",)), [0, 0, 1])
        self.assertEqual(last(*begun, ("fair", 1), ("fine", 2), ("over",)), [0, 1, 12])
        self.assertEqual(last(*begun, ("begin", 1, 1, 1), ("over",)), [-6])
        self.assertEqual(last(*begun, ("begin", 3, 2, 4), ("plan", 1, 5), ("over",)), [0, 11, 7])

    def test_no_plans(self):
        for calls in ([("begin", 2, 1, 1)], [("begin", 2, 1, 1), ("plan", 0, 1), ("drop", 0)]):
            self.assertEqual(last(*calls, ("over",)), [-6])
            self.assertEqual(state(*calls, ("over",)), (2, 1, 1, []))

    def test_changes_nothing(self):
        begun = laid(3, 2, 4, [(1, 2), (2, 3), (1, 3)])
        self.assertEqual(state(*begun, ("over",)), (3, 2, 4, [(1, 2), (2, 3), (1, 3)]))


class BestChance(unittest.TestCase):
    def check(self, days, fine, looks, days_of_set, right):
        for misdeeds in (0, 6):
            heard = last(("begin", days, misdeeds, fine), ("bestchance", looks, days_of_set))
            self.assertEqual(heard, [0] + right)

    def test_written_out(self):
        self.check(3, 4, 2, 0, [16, 31])
        self.check(3, 4, 2, 4, [4, 31])
        self.check(3, 4, 2, 5, [1, 31])
        self.check(3, 4, 2, 7, [0, 1])
        self.check(2, 2, 1, 0, [1, 2])
        self.check(2, 2, 1, 2, [1, 4])
        self.check(6, 9, 6, 0, [531441, 1000000])
        self.check(6, 9, 6, 63, [1, 1000000])

    def test_one_day(self):
        self.check(1, 1, 0, 0, [1, 1])
        self.check(1, 1, 0, 1, [0, 1])
        self.check(1, 9, 1, 0, [9, 10])
        self.check(1, 9, 1, 1, [1, 10])

    def test_a_fine_of_1_makes_all_sets_as_likely(self):
        for each in range(64):
            self.check(6, 1, 6, each, [1, 64])

    def test_every_set(self):
        for days in range(1, 7):
            for looks in range(days + 1):
                for fine in (1, 3, 9):
                    self.check_sets(days, looks, fine)

    def check_sets(self, days, looks, fine):
        weights = dict(best_plan(days, looks, fine))
        whole = sum(weights.values())
        for first in range(0, 1 << days, 32):
            sets = range(first, min(first + 32, 1 << days))
            heard = ask(("begin", days, 1, fine), *[("bestchance", looks, each) for each in sets])[1:]
            self.assertEqual(heard, [told(Fraction(weights.get(each, 0), whole)) for each in sets])

    def test_is_what_fair_tells(self):
        heard = ask(("begin", 2, 1, 3), ("fair", 1), ("unlooked",), ("bestchance", 1, 0), ("bestchance", 1, 1))
        self.assertEqual(heard[2:], [[0, 3, 5], [0, 3, 5], [0, 1, 5]])

    def test_where_fair_has_too_many_sets(self):
        heard = ask(("begin", 4, 1, 2), ("fair", 2), ("bestchance", 2, 0), ("bestchance", 2, 9))
        self.assertEqual(heard, [[0], [-28], [0, 2, 9], [0, 1, 18]])

    def test_follows_fine_and_begin_alone(self):
        begun = [("begin", 2, 1, 2), ("plan", 3, 5)]
        call = ("bestchance", 1, 0)
        for behind in ([("misdeeds", 0)], [("weight", 0, 9)], [("drop", 0)], [("fair", 2)]):
            self.assertEqual(last(*begun, *behind, call), [0, 1, 2])
        self.assertEqual(last(*begun, ("fine", 1), call), [0, 1, 3])
        self.assertEqual(last(*begun, ("begin", 3, 1, 1), call), [0, 1, 4])
        self.assertEqual(last(*begun, ("begin", 1, 1, 1), ("bestchance", 1, 2)), [-22])

    def test_refused(self):
        for days in range(1, 7):
            for plans in ([], [(1, 3)]):
                self.check_refused(days, plans)

    def check_refused(self, days, plans):
        begun = laid(days, 1, 2, plans)
        beyond = 1 << days
        wrong = [(looks, each) for looks in (days + 1, 7, LARGEST) for each in (0, beyond - 1, beyond, LARGEST)]
        wrong += [(looks, each) for looks in (0, days) for each in (beyond, beyond + 1, 64, 1 << 31, LARGEST)]
        for given in wrong:
            self.assertEqual(last(*begun, ("bestchance",) + given), [-22], given)
            self.assertEqual(state(*begun, ("bestchance",) + given), (days, 1, 2, plans))

    def test_changes_nothing(self):
        begun = laid(3, 2, 4, [(1, 2), (2, 3)])
        self.assertEqual(state(*begun, ("bestchance", 3, 7)), (3, 2, 4, [(1, 2), (2, 3)]))


class BestLooked(unittest.TestCase):
    def check(self, days, fine, looks, right):
        for misdeeds in (0, 6):
            self.assertEqual(last(("begin", days, misdeeds, fine), ("bestlooked", looks)), [0] + right)

    def test_written_out(self):
        self.check(3, 4, 2, [6, 31])
        self.check(3, 4, 3, [1, 5])
        self.check(6, 9, 1, [1, 15])
        self.check(2, 2, 1, [1, 4])

    def test_one_day(self):
        self.check(1, 1, 0, [0, 1])
        self.check(1, 1, 1, [1, 2])
        self.check(1, 9, 1, [1, 10])

    def test_no_looks_and_looks_on_all_days(self):
        for days in range(1, 7):
            for fine in (1, 9):
                self.check(days, fine, 0, [0, 1])
                self.check(days, fine, days, [1, fine + 1])

    def test_all_that_can_be_told(self):
        for days in range(1, 7):
            for looks in range(1, days + 1):
                for fine in range(1, 10):
                    part = best_weight(days - 1, looks - 1, fine)
                    right = Fraction(part, best_weight(days, looks, fine))
                    self.check(days, fine, looks, told(right)[1:])

    def test_follows_fine_and_begin_alone(self):
        begun = [("begin", 2, 1, 2), ("plan", 3, 5)]
        call = ("bestlooked", 1)
        for behind in ([("misdeeds", 0)], [("weight", 0, 9)], [("drop", 0)], [("fair", 2)]):
            self.assertEqual(last(*begun, *behind, call), [0, 1, 4])
        self.assertEqual(last(*begun, ("fine", 1), call), [0, 1, 3])
        self.assertEqual(last(*begun, ("begin", 3, 1, 1), call), [0, 1, 4])
        self.assertEqual(last(*begun, ("begin", 1, 1, 1), ("bestlooked", 2)), [-22])

    def test_refused(self):
        for days in range(1, 7):
            for plans in ([], [(1, 3)]):
                begun = laid(days, 1, 2, plans)
                for looks in (days + 1, 7, 64, LARGEST):
                    self.assertEqual(last(*begun, ("bestlooked", looks)), [-22])
                    self.assertEqual(state(*begun, ("bestlooked", looks)), (days, 1, 2, plans))

    def test_changes_nothing(self):
        begun = laid(3, 2, 4, [(1, 2), (2, 3)])
        self.assertEqual(state(*begun, ("bestlooked", 3)), (3, 2, 4, [(1, 2), (2, 3)]))


class NotBegun(unittest.TestCase):
    def test_each(self):
        for call in (("worth", 0), ("over",), ("bestchance", 0, 0), ("bestlooked", 0), ("worth", LARGEST)):
            self.assertEqual(ask(call, ("begin", 0, 0, 0), call), [[-11], [-22], [-11]])


if __name__ == "__main__":
    unittest.main()
