"""Promise 2: reply, dares, seen."""

import unittest

from tests.allways import best_gains, told
from tests.calling import LARGEST, ask, laid, last, some_plans, state


class Written(unittest.TestCase):
    def check(self, days, misdeeds, fine, plans, reply, dares):
        calls = laid(days, misdeeds, fine, plans) + [("reply",), ("dares",)]
        self.assertEqual(ask(*calls)[-2:], [[0] + reply, [dares]])

    def test_one_day(self):
        self.check(1, 1, 2, [(0, 5), (1, 1)], [1, 2], 1)
        self.check(1, 1, 5, [(0, 5), (1, 1)], [0, 1], 2)
        self.check(1, 1, 6, [(0, 5), (1, 1)], [0, 1], 0)
        self.check(1, 6, 2, [(0, 1000), (1, 1)], [998, 1001], 1)

    def test_no_misdeeds(self):
        self.check(3, 0, 1, [(0, 1)], [0, 1], 0)
        self.check(1, 0, 9, [(1, 1000)], [0, 1], 0)

    def test_more_misdeeds_than_days(self):
        self.check(2, 6, 9, [(0, 3)], [2, 1], 1)
        self.check(2, 3, 1, [(0, 2), (2, 1)], [4, 3], 1)

    def test_a_plan_without_looks(self):
        for days in range(1, 7):
            for misdeeds in range(1, 7):
                gets = min(days, misdeeds)
                self.check(days, misdeeds, 9, [(0, 1)], [gets, 1], 1 if misdeeds >= days else 2)

    def test_a_plan_of_all_days(self):
        for days in range(1, 7):
            self.check(days, 6, 1, [((1 << days) - 1, 1)], [0, 1], 0)

    def test_all_days_or_none(self):
        self.check(6, 6, 9, [(0, 1), (63, 1)], [5, 2], 0)
        self.check(6, 6, 1, [(0, 1), (63, 1)], [5, 2], 2)
        self.check(6, 5, 1, [(0, 1), (63, 1)], [5, 2], 0)
        self.check(6, 6, 1, [(0, 2), (63, 1)], [11, 3], 1)

    def test_the_same_set_twice(self):
        self.check(1, 1, 1, [(1, 1), (0, 2), (0, 3)], [2, 3], 1)
        self.check(1, 1, 1, [(1, 2), (1, 3), (0, 5)], [0, 1], 2)

    def test_a_day_that_is_surely_looked_at(self):
        self.check(2, 1, 1, [(1, 4)], [1, 1], 0)
        self.check(2, 2, 9, [(2, 4)], [1, 1], 1)
        self.check(3, 2, 9, [(2, 4), (3, 4)], [1, 1], 0)

    def test_two_days_of_which_just_one_is(self):
        self.check(2, 1, 1, [(1, 1), (2, 1)], [1, 2], 0)
        self.check(2, 2, 1, [(1, 1), (2, 1)], [1, 2], 0)
        self.check(2, 1, 1, [(1, 1), (2, 3)], [1, 2], 1)
        self.check(2, 1, 1, [(1, 1), (2, 2)], [1, 3], 2)

    def test_what_is_seen_is_known(self):
        self.check(2, 1, 9, [(1, 9), (2, 1)], [9, 10], 0)
        self.check(3, 1, 9, [(1, 1), (6, 1)], [1, 2], 0)

    def test_follows_what_is_changed(self):
        calls = laid(2, 1, 1, [(1, 1), (2, 2)]) + [
            ("reply",), ("weight", 1, 3), ("reply",), ("fine", 2), ("reply",), ("drop", 1), ("reply",),
            ("misdeeds", 0), ("reply",), ("drop", 0), ("reply",), ("begin", 1, 1, 1), ("dares",),
        ]
        heard = ask(*calls)[3::2]
        self.assertEqual(heard, [[0, 1, 3], [0, 1, 2], [0, 1, 4], [0, 1, 1], [0, 0, 1], [-6], [-6]])


class EveryWay(unittest.TestCase):
    def check_play(self, days, misdeeds, fine, plans):
        wait, dare = best_gains(days, misdeeds, fine, plans)
        dares = 0 if misdeeds == 0 else 2 if wait == dare else int(dare > wait)
        calls = laid(days, misdeeds, fine, plans) + [("reply",), ("dares",)]
        self.assertEqual(ask(*calls)[-2:], [told(max(wait, dare)), [dares]], calls)

    def test_up_to_three_days(self):
        for days in (1, 2, 3):
            for turn, plans in enumerate(some_plans(days)):
                self.check_play(days, turn % 5, (1, 2, 4, 9)[turn % 4], plans)
                self.check_play(days, (turn + 2) % 4, 1, plans)

    def test_four_days(self):
        self.check_play(4, 2, 1, [(3, 2), (5, 3), (9, 1), (6, 4), (0, 5)])
        self.check_play(4, 3, 2, [(8, 5), (1, 1), (14, 2), (10, 2)])
        self.check_play(4, 1, 1, [(1, 1), (2, 3), (4, 4), (8, 7)])

    def test_five_and_six_days(self):
        self.check_play(5, 2, 1, [(5, 2), (18, 3), (20, 4)])
        self.check_play(5, 4, 2, [(0, 3), (24, 1), (3, 1)])
        self.check_play(6, 3, 1, [(33, 1), (6, 2)])
        self.check_play(6, 6, 3, [(0, 5), (48, 2), (50, 1)])
        self.check_play(6, 1, 1, [(32, 3), (36, 1), (63, 2)])

    def test_seen(self):
        for days in (1, 2, 3):
            for turn, plans in enumerate(some_plans(days)):
                day = turn % days
                for seen in range(1 << day):
                    self.check_seen(days, plans, day, seen, (turn * 3 + seen) % 7, turn % 3 + 1)

    def check_seen(self, days, plans, day, seen, misdeeds, fine):
        calls = laid(days, 6 - misdeeds, fine, plans) + [("seen", day, seen, misdeeds)]
        if all(plan[0] % (1 << day) != seen for plan in plans):
            self.assertEqual(last(*calls), [-33], calls)
        else:
            right = max(best_gains(days, misdeeds, fine, plans, day, seen))
            self.assertEqual(last(*calls), told(right), calls)


class Seen(unittest.TestCase):
    PLANS = [(1, 2), (2, 3), (6, 1)]

    def test_written_out(self):
        begun = laid(3, 0, 1, self.PLANS)
        self.assertEqual(last(*begun, ("seen", 0, 0, 1)), [0, 2, 3])
        self.assertEqual(last(*begun, ("seen", 1, 1, 2)), [0, 2, 1])
        self.assertEqual(last(*begun, ("seen", 1, 0, 6)), [0, 1, 2])
        self.assertEqual(last(*begun, ("seen", 2, 2, 1)), [0, 1, 2])
        self.assertEqual(last(*begun, ("seen", 2, 1, 1)), [0, 1, 1])
        self.assertEqual(last(*begun, ("seen", 2, 1, 0)), [0, 0, 1])

    def test_from_day_0_on_is_the_reply(self):
        for misdeeds in range(7):
            begun = laid(3, misdeeds, 2, self.PLANS)
            heard = ask(*begun, ("reply",), ("seen", 0, 0, misdeeds))
            self.assertEqual(heard[-1], heard[-2])

    def test_six_days_of_the_best_plan(self):
        for fine in (1, 9):
            for day in range(6):
                for misdeeds in range(7):
                    self.check_one_look(fine, day, misdeeds)

    def check_one_look(self, fine, day, misdeeds):
        left = 6 - day
        pairs = left * (left - 1) // 2
        unsure = max(left - misdeeds, 0)
        above = pairs - unsure * (unsure - 1) // 2
        heard = ask(("begin", 6, 1, fine), ("fair", 1), ("seen", day, 0, misdeeds))[-1]
        self.assertEqual(heard[1] * (fine + left), heard[2] * above)
        for looked_at in range(day):
            heard = ask(("begin", 6, 1, fine), ("fair", 1), ("seen", day, 1 << looked_at, misdeeds))[-1]
            self.assertEqual(heard, [0, min(misdeeds, left), 1])

    def test_out_of_range(self):
        begun = laid(3, 1, 1, self.PLANS)
        wrong = [(3, 0, 1), (4, 0, 1), (64, 0, 1), (LARGEST, 0, 1)]
        wrong += [(0, 1, 1), (0, 2, 1), (1, 2, 1), (1, 3, 1), (2, 4, 1), (2, 8, 1), (2, LARGEST, 1)]
        wrong += [(0, 0, 7), (2, 1, LARGEST), (LARGEST, LARGEST, LARGEST)]
        for given in wrong:
            calls = begun + [("seen",) + given]
            self.assertEqual(last(*calls), [-22], given)
            self.assertEqual(state(*calls), state(*begun))

    def test_never_seen_so(self):
        begun = laid(3, 1, 1, self.PLANS)
        for given in ((2, 0, 1), (2, 3, 0), (2, 3, 6)):
            calls = begun + [("seen",) + given]
            self.assertEqual(last(*calls), [-33], given)
            self.assertEqual(state(*calls), state(*begun))
        self.assertEqual(last(*laid(2, 1, 1, [(3, 1)]), ("seen", 1, 0, 1)), [-33])

    def test_out_of_range_goes_ahead_of_never_seen_so(self):
        begun = laid(3, 1, 1, self.PLANS)
        self.assertEqual(last(*begun, ("seen", 2, 0, 7)), [-22])
        self.assertEqual(last(*begun, ("seen", 2, 7, 1)), [-22])


class Asking(unittest.TestCase):
    def test_no_plans_goes_first(self):
        for calls in ([("begin", 2, 1, 1)], [("begin", 2, 1, 1), ("plan", 0, 1), ("drop", 0)]):
            for call in (("reply",), ("dares",), ("seen", 0, 0, 1), ("seen", 9, 9, 9), ("seen",) + (LARGEST,) * 3):
                self.assertEqual(last(*calls, call), [-6])
                self.assertEqual(state(*calls, call), (2, 1, 1, []))

    def test_no_plans_goes_first_with_no_misdeeds(self):
        self.assertEqual(last(("begin", 2, 0, 1), ("dares",)), [-6])
        self.assertEqual(last(("begin", 2, 0, 1), ("reply",)), [-6])

    def test_changes_nothing(self):
        begun = laid(3, 2, 4, [(1, 2), (2, 3), (1, 3)])
        asked = begun + [("reply",), ("dares",), ("seen", 1, 1, 6), ("looked", 2)]
        self.assertEqual(state(*asked), (3, 2, 4, [(1, 2), (2, 3), (1, 3)]))
        self.assertEqual(ask(*asked, *asked[-4:])[-4:], ask(*asked)[-4:])


if __name__ == "__main__":
    unittest.main()
