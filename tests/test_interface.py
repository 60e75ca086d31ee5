"""The interface: how calls are handed in and answers given back, and what stays as it was."""

import unittest

from plansoflooks.lots import answers
from tests.calling import NAMES, TAKES, ask


class Interface(unittest.TestCase):
    def test_counts_stand_before_answers(self):
        self.assertEqual(answers([7]), [1, -11])
        self.assertEqual(answers([0, 2, 1, 1]), [1, 0])
        line = [0, 2, 1, 1, 7, 1, 1, 1, 1, 2, 2, 7, 8, 9, 1, 0, 1, 10, 1, 10, 2, 2, 0, 7]
        right = [1, 0, 1, -6, 1, 0, 1, 1, 3, 0, 1, 3, 1, 2, 3, 0, 0, 1, 3, 0, 2, 3, 1, -22, 1, 1, 3, 0, 1, 1]
        self.assertEqual(answers(line), right)

    def test_what_is_handed_in_stays_and_nothing_is_kept(self):
        line = [0, 3, 2, 4, 1, 5, 6, 6, 1, 4, 3, 5, 2, 3, 0, 7, 2, 1, 9, 1, 0, 2, 10, 0, 7, 8]
        kept = list(line)
        first = answers(line)
        self.assertEqual(line, kept)
        copied = list(first)
        first.append(0)
        self.assertEqual(answers(line), copied)
        self.assertEqual(answers([7]), [1, -11])
        self.assertEqual(answers([0, 3, 2, 4, 7]), [1, 0, 1, -6])

    def test_sixty_calls(self):
        calls = [("begin", 6, 6, 9)] + [("plan", place * 7 % 64, place + 1) for place in range(10)]
        calls += [("reply",), ("dares",), ("seen", 0, 0, 6), ("looked", 5)] * 12 + [("reply",)]
        heard = ask(*calls)
        self.assertEqual(len(heard), 60)
        self.assertEqual(heard[11:15] * 12 + [heard[11]], heard[11:])

    def test_no_plans_goes_first_of_all_that_asks_of_plans(self):
        for name in ("reply", "dares", "seen", "looked", "mean", "most", "over", "caught", "done", "unlooked"):
            call = (name,) + (9,) * TAKES[NAMES.index(name)]
            self.assertEqual(ask(("begin", 1, 1, 1), call), [[0], [-6]])


if __name__ == "__main__":
    unittest.main()
