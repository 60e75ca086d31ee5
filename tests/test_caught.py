"""Promise 5: caught, done."""

import unittest

from tests.allways import daring_play, told
from tests.calling import LARGEST, ask, laid, last, some_plans, state

ASKED = [("caught",), ("done",)]


def heard_of(*calls):
    return ask(*calls, *ASKED)[-2:]


class Written(unittest.TestCase):
    def check(self, days, misdeeds, fine, plans, caught, done):
        heard = heard_of(*laid(days, misdeeds, fine, plans))
        self.assertEqual(heard, [[0] + caught, [0] + done])

    def test_one_day(self):
        self.check(1, 1, 2, [(0, 5), (1, 1)], [1, 6], [5, 6])
        self.check(1, 1, 6, [(0, 5), (1, 1)], [0, 1], [0, 1])
        self.check(1, 6, 9, [(0, 1000), (1, 1)], [1, 1001], [1000, 1001])

    def test_dares_where_that_gets_as_much(self):
        self.check(1, 1, 5, [(0, 5), (1, 1)], [1, 6], [5, 6])
        self.check(6, 6, 1, [(0, 1), (63, 1)], [1, 2], [3, 1])
        self.check(6, 5, 1, [(0, 1), (63, 1)], [0, 1], [5, 2])
        self.check(6, 6, 9, [(0, 1), (63, 1)], [0, 1], [5, 2])

    def test_dares_on_a_later_day_where_that_gets_as_much(self):
        self.check(2, 1, 1, [(1, 1), (3, 1)], [1, 2], [1, 2])
        self.check(2, 1, 2, [(1, 1), (3, 1)], [0, 1], [0, 1])

    def test_no_misdeeds(self):
        self.check(3, 0, 1, [(0, 1)], [0, 1], [0, 1])
        self.check(1, 0, 9, [(1, 1000)], [0, 1], [0, 1])

    def test_more_misdeeds_than_days(self):
        self.check(2, 6, 9, [(0, 3)], [0, 1], [2, 1])
        self.check(2, 3, 1, [(0, 2), (2, 1)], [1, 3], [5, 3])

    def test_fewer_misdeeds_than_days(self):
        self.check(3, 1, 1, [(0, 2), (4, 1)], [0, 1], [1, 1])

    def test_a_plan_without_looks(self):
        for days in range(1, 7):
            for misdeeds in range(7):
                self.check(days, misdeeds, 9, [(0, 1)], [0, 1], [min(days, misdeeds), 1])

    def test_a_plan_of_all_days(self):
        for days in range(1, 7):
            self.check(days, 6, 1, [((1 << days) - 1, 1)], [0, 1], [0, 1])

    def test_the_same_set_twice(self):
        self.check(1, 1, 1, [(1, 1), (0, 2), (0, 3)], [1, 6], [5, 6])
        self.check(1, 1, 1, [(1, 2), (1, 3), (0, 5)], [1, 2], [1, 2])

    def test_a_day_that_is_surely_looked_at(self):
        self.check(2, 1, 1, [(1, 4)], [0, 1], [1, 1])
        self.check(2, 2, 9, [(2, 4)], [0, 1], [1, 1])
        self.check(3, 2, 1, [(2, 4), (3, 4)], [0, 1], [1, 1])

    def test_two_days_of_which_just_one_is(self):
        self.check(2, 1, 1, [(1, 1), (2, 1)], [0, 1], [1, 2])
        self.check(2, 1, 1, [(1, 1), (2, 2)], [1, 3], [2, 3])
        self.check(2, 2, 1, [(1, 1), (2, 2)], [1, 3], [2, 3])
        self.check(2, 1, 1, [(1, 1), (2, 3)], [1, 4], [3, 4])

    def test_nothing_comes_behind_when_caught(self):
        self.check(6, 6, 1, [(1, 1), (0, 9)], [1, 10], [27, 5])


class EveryWay(unittest.TestCase):
    def check(self, days, misdeeds, fine, plans):
        calls = laid(days, misdeeds, fine, plans)
        caught, done = daring_play(days, misdeeds, fine, plans)
        self.assertEqual(heard_of(*calls), [told(caught), told(done)], calls)

    def test_up_to_three_days(self):
        for days in (1, 2, 3):
            for turn, plans in enumerate(some_plans(days)):
                self.check(days, turn % 5, (1, 2, 4, 9)[turn % 4], plans)
                self.check(days, (turn + 2) % 4, 1, plans)

    def test_weights_that_make_daring_and_waiting_get_as_much(self):
        for days in (2, 3):
            for turn, plans in enumerate(some_plans(days)):
                light = [(each, weight % 2 + 1) for each, weight in plans]
                self.check(days, turn % 3 + 1, turn % 2 + 1, light)

    def test_four_days(self):
        self.check(4, 2, 1, [(3, 2), (5, 3), (9, 1), (6, 4), (0, 5)])
        self.check(4, 3, 2, [(8, 5), (1, 1), (14, 2), (10, 2)])
        self.check(4, 1, 1, [(1, 1), (2, 3), (4, 4), (8, 7)])
        self.check(4, 2, 1, [(1, 1), (2, 1), (4, 1), (8, 1), (0, 1)])

    def test_five_and_six_days(self):
        self.check(5, 2, 1, [(5, 2), (18, 3), (20, 4)])
        self.check(5, 4, 2, [(0, 3), (24, 1), (3, 1)])
        self.check(6, 3, 1, [(33, 1), (6, 2)])
        self.check(6, 6, 3, [(0, 5), (48, 2), (50, 1)])
        self.check(6, 1, 1, [(32, 3), (36, 1), (63, 2)])
        self.check(6, 6, 1, [(16, 1), (48, 1)])


class Asking(unittest.TestCase):
    def test_follows_what_is_changed(self):
        begun = [("begin", 2, 1, 1), ("plan", 1, 1), ("plan", 2, 1)]
        self.assertEqual(heard_of(*begun), [[0, 0, 1], [0, 1, 2]])
        self.assertEqual(heard_of(*begun, ("weight", 1, 2)), [[0, 1, 3], [0, 2, 3]])
        self.assertEqual(heard_of(*begun, ("weight", 1, 2), ("fine", 2)), [[0, 0, 1], [0, 1, 3]])
        self.assertEqual(heard_of(*begun, ("misdeeds", 0)), [[0, 0, 1], [0, 0, 1]])
        self.assertEqual(heard_of(*begun, ("drop", 1)), [[0, 0, 1], [0, 1, 1]])
        self.assertEqual(heard_of(*begun, ("drop", 1), ("drop", 0)), [[-6], [-6]])
        self.assertEqual(heard_of(*begun, ("fair", 1)), [[0, 1, 3], [0, 2, 3]])
        self.assertEqual(heard_of(*begun, ("misdeeds", 2), ("fair", 1)), [[0, 2, 3], [0, 1, 1]])
        self.assertEqual(heard_of(*begun, ("begin", 1, 1, 1)), [[-6], [-6]])
        self.assertEqual(heard_of(*begun, ("begin", 1, 1, 1), ("plan", 0, 5)), [[0, 0, 1], [0, 1, 1]])
        self.assertEqual(heard_of(*begun, ("begin", 1, LARGEST, 1)), [[0, 0, 1], [0, 1, 2]])

    def test_no_plans(self):
        for misdeeds in (0, 1):
            begun = [("begin", 2, misdeeds, 1)]
            for calls in (begun, begun + [("plan", 0, 1), ("drop", 0)]):
                self.assertEqual(heard_of(*calls), [[-6], [-6]])
                self.assertEqual(state(*calls, *ASKED), (2, misdeeds, 1, []))

    def test_not_begun(self):
        self.assertEqual(heard_of(("begin", 0, 0, 0)), [[-11], [-11]])
        self.assertEqual(ask(*ASKED, ("begin", 1, 1, 1)), [[-11], [-11], [0]])

    def test_changes_nothing(self):
        begun = laid(3, 2, 4, [(1, 2), (2, 3), (1, 3)])
        self.assertEqual(state(*begun, *ASKED), (3, 2, 4, [(1, 2), (2, 3), (1, 3)]))
        self.assertEqual(heard_of(*begun, *ASKED), heard_of(*begun))
        self.assertEqual(last(*begun, *ASKED, ("reply",)), last(*begun, ("reply",)))


if __name__ == "__main__":
    unittest.main()
