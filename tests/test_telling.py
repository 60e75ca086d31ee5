"""Promise 1: begin, plan, drop, weight, misdeeds, fine, fair, told."""

import unittest
from math import comb

from tests.calling import LARGEST, NAMES, TAKES, ask, last, state

TEN = [("plan", place % 8, place + 1) for place in range(10)]
TOLD_TEN = [(place % 8, place + 1) for place in range(10)]


class Begin(unittest.TestCase):
    def test_keeps_what_is_told(self):
        for days in range(1, 7):
            for misdeeds in (0, 1, 6):
                for fine in (1, 5, 9):
                    call = ("begin", days, misdeeds, fine)
                    self.assertEqual(ask(call), [[0]])
                    self.assertEqual(state(call), (days, misdeeds, fine, []))

    def test_refuses_what_is_beyond(self):
        for days in (0, 7, LARGEST):
            self.assertEqual(ask(("begin", days, 1, 1)), [[-22]])
        for misdeeds in (7, LARGEST):
            self.assertEqual(ask(("begin", 1, misdeeds, 1)), [[-22]])
        for fine in (0, 10, LARGEST):
            self.assertEqual(ask(("begin", 1, 1, fine)), [[-22]])
        self.assertEqual(ask(("begin", LARGEST, LARGEST, LARGEST)), [[-22]])

    def test_all_else_is_refused_before_it(self):
        for number, name in enumerate(NAMES[1:], start=1):
            for given in (0, 1, LARGEST):
                call = (name,) + (given,) * TAKES[number]
                self.assertEqual(ask(call), [[-11]], name)
                self.assertEqual(ask(("begin", 7, 1, 1), call), [[-22], [-11]], name)
                self.assertEqual(ask(call, ("begin", 1, 1, 1), ("plan", 1, 1)), [[-11], [0], [0]], name)

    def test_what_was_refused_before_it_leaves_nothing(self):
        calls = [("plan", 0, 1), ("misdeeds", 5), ("fine", 5), ("fair", 1), ("begin", 2, 1, 3)]
        self.assertEqual(ask(*calls), [[-11]] * 4 + [[0]])
        self.assertEqual(state(*calls), (2, 1, 3, []))

    def test_again_starts_anew(self):
        calls = [("begin", 3, 2, 4)] + TEN + [("misdeeds", 5), ("fine", 6), ("begin", 2, 1, 3)]
        self.assertEqual(last(*calls), [0])
        self.assertEqual(state(*calls), (2, 1, 3, []))
        self.assertEqual(last(*calls, ("plan", 3, 1)), [0])
        self.assertEqual(last(*calls, ("plan", 4, 1)), [-22])
        self.assertEqual(last(*calls, ("reply",)), [-6])

    def test_again_refused_changes_nothing(self):
        for wrong in ((0, 1, 1), (7, 1, 1), (2, 7, 1), (2, 1, 0), (2, 1, 10), (LARGEST, 1, 1)):
            calls = [("begin", 3, 2, 4), ("plan", 5, 6), ("begin",) + wrong]
            self.assertEqual(last(*calls), [-22])
            self.assertEqual(state(*calls), (3, 2, 4, [(5, 6)]))


class Plan(unittest.TestCase):
    def test_is_numbered_from_0(self):
        calls = [("begin", 3, 2, 4)] + TEN
        self.assertEqual(ask(*calls), [[0]] + [[place] for place in range(10)])
        self.assertEqual(state(*calls), (3, 2, 4, TOLD_TEN))

    def test_every_set_of_days_and_none_beyond(self):
        for days in range(1, 7):
            for right in range(1 << days):
                calls = [("begin", days, 1, 1), ("plan", right, 1)]
                self.assertEqual(last(*calls), [0])
                self.assertEqual(state(*calls)[3], [(right, 1)])
            for wrong in (1 << days, (1 << days) + 1, 64, 1 << 31, 1 << 6 << days, LARGEST):
                calls = [("begin", days, 1, 1), ("plan", 1, 1), ("plan", wrong, 1)]
                self.assertEqual(last(*calls), [-22])
                self.assertEqual(state(*calls)[3], [(1, 1)])

    def test_weight_is_1_to_1000(self):
        for weight in (1, 2, 999, 1000):
            self.assertEqual(state(("begin", 1, 1, 1), ("plan", 1, weight))[3], [(1, weight)])
        for weight in (0, 1001, LARGEST):
            calls = [("begin", 1, 1, 1), ("plan", 1, weight)]
            self.assertEqual(last(*calls), [-22])
            self.assertEqual(state(*calls)[3], [])

    def test_the_same_set_twice(self):
        calls = [("begin", 2, 1, 1), ("plan", 1, 2), ("plan", 1, 3), ("plan", 1, 3)]
        self.assertEqual(ask(*calls)[1:], [[0], [1], [2]])
        self.assertEqual(state(*calls)[3], [(1, 2), (1, 3), (1, 3)])

    def test_no_eleventh(self):
        calls = [("begin", 3, 2, 4)] + TEN + [("plan", 1, 1)]
        self.assertEqual(last(*calls), [-28])
        self.assertEqual(state(*calls), (3, 2, 4, TOLD_TEN))
        self.assertEqual(last(*calls, ("drop", 9), ("plan", 1, 1)), [9])

    def test_out_of_range_goes_ahead_of_too_many(self):
        for wrong in ((8, 1), (1, 0), (1, 1001), (LARGEST, LARGEST)):
            calls = [("begin", 3, 2, 4)] + TEN + [("plan",) + wrong]
            self.assertEqual(last(*calls), [-22])
            self.assertEqual(state(*calls), (3, 2, 4, TOLD_TEN))


class Drop(unittest.TestCase):
    def test_those_behind_are_numbered_one_less(self):
        for gone in range(10):
            calls = [("begin", 3, 2, 4)] + TEN + [("drop", gone)]
            self.assertEqual(last(*calls), [9])
            self.assertEqual(state(*calls), (3, 2, 4, TOLD_TEN[:gone] + TOLD_TEN[gone + 1:]))

    def test_down_to_none(self):
        calls = [("begin", 3, 2, 4)] + TEN + [("drop", 0)] * 11
        self.assertEqual(ask(*calls)[11:], [[count] for count in range(9, -1, -1)] + [[-2]])
        self.assertEqual(state(*calls), (3, 2, 4, []))

    def test_no_such_plan(self):
        for place in (2, 3, 10, LARGEST):
            calls = [("begin", 2, 1, 1), ("plan", 1, 2), ("plan", 2, 3), ("drop", place)]
            self.assertEqual(last(*calls), [-2])
            self.assertEqual(state(*calls)[3], [(1, 2), (2, 3)])
        for place in (0, LARGEST):
            self.assertEqual(last(("begin", 2, 1, 1), ("drop", place)), [-2])


class Weight(unittest.TestCase):
    def test_tells_what_it_was(self):
        begun = [("begin", 2, 1, 1), ("plan", 1, 2), ("plan", 1, 3), ("plan", 0, 4)]
        for weight in (1, 5, 1000):
            calls = begun + [("weight", 1, weight)]
            self.assertEqual(last(*calls), [3])
            self.assertEqual(state(*calls), (2, 1, 1, [(1, 2), (1, weight), (0, 4)]))
            self.assertEqual(last(*calls, ("weight", 1, 7)), [weight])

    def test_out_of_range(self):
        for weight in (0, 1001, LARGEST):
            calls = [("begin", 2, 1, 1), ("plan", 1, 2), ("weight", 0, weight)]
            self.assertEqual(last(*calls), [-22])
            self.assertEqual(state(*calls)[3], [(1, 2)])

    def test_no_such_plan_goes_first(self):
        for place in (1, 2, LARGEST):
            for weight in (0, 1, 1000, 1001, LARGEST):
                calls = [("begin", 2, 1, 1), ("plan", 1, 2), ("weight", place, weight)]
                self.assertEqual(last(*calls), [-2])
                self.assertEqual(state(*calls)[3], [(1, 2)])
        self.assertEqual(last(("begin", 2, 1, 1), ("weight", 0, 0)), [-2])


class MisdeedsAndFine(unittest.TestCase):
    def test_misdeeds(self):
        for misdeeds in range(7):
            calls = [("begin", 2, 3, 4), ("plan", 1, 2), ("misdeeds", misdeeds)]
            self.assertEqual(last(*calls), [3])
            self.assertEqual(state(*calls), (2, misdeeds, 4, [(1, 2)]))
        for misdeeds in (7, 8, LARGEST):
            calls = [("begin", 2, 3, 4), ("plan", 1, 2), ("misdeeds", misdeeds)]
            self.assertEqual(last(*calls), [-22])
            self.assertEqual(state(*calls), (2, 3, 4, [(1, 2)]))

    def test_fine(self):
        for fine in range(1, 10):
            calls = [("begin", 2, 3, 4), ("plan", 1, 2), ("fine", fine)]
            self.assertEqual(last(*calls), [4])
            self.assertEqual(state(*calls), (2, 3, fine, [(1, 2)]))
        for fine in (0, 10, LARGEST):
            calls = [("begin", 2, 3, 4), ("plan", 1, 2), ("fine", fine)]
            self.assertEqual(last(*calls), [-22])
            self.assertEqual(state(*calls), (2, 3, 4, [(1, 2)]))


class Fair(unittest.TestCase):
    def test_written_out(self):
        begun = [("begin", 3, 2, 4), ("plan", 7, 1000)]
        self.assertEqual(state(*begun, ("fair", 0)), (3, 2, 4, [(0, 1)]))
        self.assertEqual(state(*begun, ("fair", 1)), (3, 2, 4, [(0, 4), (1, 1), (2, 1), (4, 1)]))
        two = [(0, 16), (1, 4), (2, 4), (3, 1), (4, 4), (5, 1), (6, 1)]
        self.assertEqual(state(*begun, ("fair", 2)), (3, 2, 4, two))
        three = [(0, 64), (1, 16), (2, 16), (3, 4), (4, 16), (5, 4), (6, 4), (7, 1)]
        self.assertEqual(state(*begun, ("fair", 3)), (3, 2, 4, three))
        self.assertEqual(state(("begin", 1, 0, 9), ("fair", 1)), (1, 0, 9, [(0, 9), (1, 1)]))

    def test_all_days_looks_and_fines(self):
        for days in range(1, 7):
            for looks in range(days + 1):
                for fine in (1, 2, 9):
                    calls = [("begin", days, 2, fine), ("plan", 1, 5), ("fair", looks)]
                    sets = [each for each in range(1 << days) if bin(each).count("1") <= looks]
                    plans = [(each, fine ** (looks - bin(each).count("1"))) for each in sets]
                    fits = len(sets) <= 10
                    self.assertEqual(last(*calls), [len(sets) if fits else -28])
                    self.assertEqual(state(*calls), (days, 2, fine, plans if fits else [(1, 5)]))

    def test_refused(self):
        for days in range(1, 7):
            for looks in (days + 1, 7, LARGEST):
                calls = [("begin", days, 2, 3), ("plan", 1, 5), ("fair", looks)]
                self.assertEqual(last(*calls), [-22])
                self.assertEqual(state(*calls), (days, 2, 3, [(1, 5)]))

    def test_by_the_fine_of_now_and_kept_when_it_changes(self):
        calls = [("begin", 2, 2, 3), ("fine", 5), ("fair", 1), ("fine", 7)]
        self.assertEqual(state(*calls), (2, 2, 7, [(0, 5), (1, 1), (2, 1)]))

    def test_may_be_changed_like_any_plans(self):
        calls = [("begin", 2, 2, 3), ("fair", 1), ("plan", 3, 8), ("drop", 0), ("weight", 0, 6)]
        self.assertEqual(ask(*calls), [[0], [3], [3], [3], [1]])
        self.assertEqual(state(*calls), (2, 2, 3, [(1, 6), (2, 1), (3, 8)]))

    def test_holds_them_to_what_is_known_of_the_best_plan(self):
        for days in range(1, 7):
            for looks in range(days + 1):
                if sum(comb(days, few) for few in range(looks + 1)) > 10:
                    continue
                for misdeeds in range(7):
                    for fine in (1, 3, 9):
                        self.check_worth(days, looks, misdeeds, fine)

    def check_worth(self, days, looks, misdeeds, fine):
        heard = last(("begin", days, misdeeds, fine), ("fair", looks), ("reply",))
        below = sum(comb(days, few) * fine ** (looks - few) for few in range(looks + 1))
        above = comb(days, looks + 1) - comb(max(days - misdeeds, 0), looks + 1)
        self.assertEqual(heard[0], 0)
        self.assertEqual(heard[1] * below, heard[2] * above)


class Told(unittest.TestCase):
    def test_without_plans(self):
        for days in range(1, 7):
            for misdeeds in range(7):
                for fine in range(1, 10):
                    heard = last(("begin", days, misdeeds, fine), ("told",))
                    self.assertEqual(heard, [days, misdeeds, fine, 0])

    def test_each_plan_in_order(self):
        begun = [("begin", 6, 6, 9), ("plan", 63, 1), ("plan", 0, 1000), ("plan", 63, 2), ("plan", 5, 1)]
        self.assertEqual(last(*begun, ("told",)), [6, 6, 9, 4, 63, 1, 0, 1000, 63, 2, 5, 1])
        calls = [("begin", 3, 2, 4)] + TEN + [("told",)]
        right = [3, 2, 4, 10] + [number for plan in TOLD_TEN for number in plan]
        self.assertEqual(last(*calls), right)

    def test_one_day(self):
        self.assertEqual(last(("begin", 1, 0, 1), ("plan", 1, 1), ("told",)), [1, 0, 1, 1, 1, 1])

    def test_follows_each_call(self):
        calls = [
            ("begin", 3, 2, 4), ("told",), ("plan", 5, 6), ("told",), ("plan", 5, 7), ("told",),
            ("weight", 0, 8), ("told",), ("misdeeds", 0), ("told",), ("fine", 3), ("told",),
            ("drop", 0), ("told",), ("fair", 1), ("told",), ("begin", 2, 1, 1), ("told",),
        ]
        self.assertEqual(ask(*calls)[1::2], [
            [3, 2, 4, 0], [3, 2, 4, 1, 5, 6], [3, 2, 4, 2, 5, 6, 5, 7], [3, 2, 4, 2, 5, 8, 5, 7],
            [3, 0, 4, 2, 5, 8, 5, 7], [3, 0, 3, 2, 5, 8, 5, 7], [3, 0, 3, 1, 5, 7],
            [3, 0, 3, 4, 0, 3, 1, 1, 2, 1, 4, 1], [2, 1, 1, 0],
        ])

    def test_stays_behind_what_is_refused(self):
        begun = [("begin", 3, 2, 4), ("plan", 5, 6)]
        for wrong in (
            ("begin", 0, 1, 1), ("plan", 8, 1), ("plan", 1, 0), ("drop", 1), ("weight", 1, 1), ("weight", 0, 0),
            ("misdeeds", 7), ("fine", 0), ("fair", 4), ("seen", 3, 0, 0), ("seen", 1, 0, 0), ("looked", 3),
            ("worth", 4), ("bestchance", 4, 0), ("bestchance", 0, 8), ("bestlooked", 4),
        ):
            heard = ask(*begun, wrong, ("told",))
            self.assertLess(heard[-2][0], 0, wrong)
            self.assertEqual(heard[-1], [3, 2, 4, 1, 5, 6], wrong)

    def test_not_begun(self):
        self.assertEqual(ask(("told",), ("begin", 0, 1, 1), ("told",)), [[-11], [-22], [-11]])


if __name__ == "__main__":
    unittest.main()
