"""The interface: how calls are handed in and answers given back, and what stays as it was."""

import unittest

from plansoflooks.lots import answers
from tests.calling import NAMES, TAKES, ask


class Interface(unittest.TestCase):
    def test_counts_stand_before_answers(self):
        self.assertEqual(answers([7]), [1, -11])
        self.assertEqual(answers([0, 2, 1, 1]), [1, 0])
        line = [0, 2, 1, 1, 7, 1, 1, 1, 1, 2, 2, 7, 8, 9, 1, 0, 1, 10, 1, 10, 2, 2, 0, 7]
        right = [1, 0, 1, -6, 1, 0, 1, 1, 3, 0, 1, 3, 1, 2, 3, 0, 0, 1, 3, 0, 2, 3, 1, -22, 1, 1, 3, 0, 1, 1]
        self.assertEqual(answers(line), right)

    def test_all_calls_in_one_line(self):
        line = [0, 2, 1, 1, 1, 1, 1, 1, 2, 2, 1, 3, 3, 2, 2, 3, 1, 3, 4, 2, 5, 2, 20, 6, 1, 4, 1, 5, 1]
        right = [1, 0, 1, 0, 1, 1, 1, 2, 1, 2, 1, 2, 1, 1, 1, 1, 8, 2, 2, 2, 2, 1, 1, 2, 3, 1, 3, 1, 2, 1, 2]
        line += [7, 8, 9, 0, 0, 1, 10, 1, 11, 12, 13, 2, 14, 15, 1, 2, 16, 1, 17, 18, 19, 20]
        right += [3, 0, 1, 2, 1, 2, 3, 0, 1, 2, 3, 0, 1, 4, 3, 0, 1, 2, 1, 1, 3, 0, 0, 1, 3, 0, 1, 6]
        right += [3, 0, 1, 3, 3, 0, 1, 3, 3, 0, 1, 4, 3, 0, 3, 4, 3, 0, 1, 2, 10, 2, 1, 1, 3, 0, 2, 1, 1, 2, 1]
        self.assertEqual(answers(line), right)

    def test_what_is_handed_in_stays_and_nothing_is_kept(self):
        line = [0, 3, 2, 4, 1, 5, 6, 6, 1, 4, 3, 5, 2, 3, 0, 7, 2, 1, 9, 1, 0, 2, 10, 0, 7, 8]
        line += [11, 12, 13, 2, 14, 15, 3, 5, 16, 2, 17, 18, 19, 20, 13, 4, 15, 4294967295, 4294967295]
        kept = list(line)
        first = answers(line)
        self.assertEqual(line, kept)
        copied = list(first)
        first.append(0)
        self.assertEqual(answers(line), copied)
        self.assertEqual(answers([7]), [1, -11])
        self.assertEqual(answers([0, 3, 2, 4, 7]), [1, 0, 1, -6])

    def test_sixty_calls(self):
        calls = [("begin", 6, 6, 9)] + [("plan", place * 7 % 64, place + 1) for place in range(10)]
        asked = [("reply",), ("dares",), ("seen", 0, 0, 6), ("looked", 5), ("mean",), ("most",), ("worth", 6)]
        asked += [("over",), ("bestchance", 6, 63), ("bestlooked", 6), ("caught",), ("done",), ("unlooked",)]
        calls += (asked + [("told",)]) * 3 + asked[:7]
        heard = ask(*calls)
        self.assertEqual(len(heard), 60)
        self.assertEqual(heard[11:25] * 3 + heard[11:18], heard[11:])

    def test_no_plans_goes_first_of_all_that_asks_of_plans(self):
        for name in ("reply", "dares", "seen", "looked", "mean", "most", "over", "caught", "done", "unlooked"):
            call = (name,) + (9,) * TAKES[NAMES.index(name)]
            self.assertEqual(ask(("begin", 1, 1, 1), call), [[0], [-6]])

    def test_all_else_needs_no_plans(self):
        calls = [("begin", 1, 1, 1), ("worth", 0), ("bestchance", 0, 0), ("bestlooked", 0), ("told",)]
        self.assertEqual(ask(*calls), [[0], [0, 1, 1], [0, 1, 1], [0, 0, 1], [1, 1, 1, 0]])


if __name__ == "__main__":
    unittest.main()
