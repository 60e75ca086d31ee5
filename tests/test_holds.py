"""What holds over the whole program."""

import unittest
from fractions import Fraction
from itertools import combinations_with_replacement
from math import comb

from tests.allways import best_gains
from tests.calling import ask, laid, last, some_plans

ALL_MISDEEDS = [("misdeeds", misdeeds) for misdeeds in range(7)]


def value(answer):
    return Fraction(answer[1], answer[2])


def some_on_more_days():
    """Ten plans on 4 to 6 days, of at most one look, two, and so on; some sets twice."""
    for days in (4, 5, 6):
        for turn in range(1, 16):
            looks = turn % days + 1
            sets = [each for each in range(1 << days) if bin(each).count("1") <= looks]
            picked = [sets[(turn * 13 + place * (2 * turn + 3)) % len(sets)] for place in range(10)]
            yield days, turn % 9 + 1, [(each, (turn * 5 + each * 7) % 17 + 1) for each in picked]


def fair_that_fits():
    for days in range(1, 7):
        for looks in range(days + 1):
            if sum(comb(days, few) for few in range(looks + 1)) <= 10:
                yield days, looks


class BestPlan(unittest.TestCase):
    def check_none_is_lower(self, days, fine, plans):
        calls = laid(days, 0, fine, plans) + [("most",)]
        calls += [call for misdeeds in ALL_MISDEEDS for call in (misdeeds, ("over",), ("reply",))]
        heard = ask(*calls)[1 + len(plans):]
        most = heard.pop(0)[0]
        overs = heard[1::3]
        for answer in overs:
            self.assertEqual(answer[0], 0, calls)
            self.assertGreaterEqual(answer[1], 0, calls)
        for looks in range(most, days + 1):
            self.check_reply(days, fine, looks, heard[2::3])
        worths = ask(("begin", days, 0, fine), *[each for call in ALL_MISDEEDS for each in (call, ("worth", most))])
        self.assertEqual(
            [value(reply) for reply in heard[2::3]],
            [value(over) + value(worth) for over, worth in zip(overs, worths[2::2])])

    def check_reply(self, days, fine, looks, replies):
        for misdeeds, reply in enumerate(replies):
            worth = last(("begin", days, misdeeds, fine), ("worth", looks))
            self.assertGreaterEqual(value(reply), value(worth))

    def test_none_of_a_few_days_holds_them_lower(self):
        for days in (1, 2):
            for fine in (1, 2):
                for count in (1, 2, 3, 4):
                    for sets in combinations_with_replacement(range(1 << days), count):
                        self.check_none_is_lower(days, fine, [(each, 1) for each in sets])
        for turn, plans in enumerate(some_plans(3)):
            self.check_none_is_lower(3, turn % 9 + 1, plans)

    def test_none_of_more_days_holds_them_lower(self):
        for days, fine, plans in some_on_more_days():
            self.check_none_is_lower(days, fine, plans)

    def test_holds_them_as_low_however_many_misdeeds_there_are(self):
        for days, looks in fair_that_fits():
            for fine in (1, 2, 9):
                calls = [("begin", days, 3, fine), ("fair", looks), ("most",)]
                calls += [call for misdeeds in ALL_MISDEEDS for call in (misdeeds, ("over",))]
                heard = ask(*calls)
                self.assertEqual(heard[2], [looks])
                self.assertEqual(heard[4::2], [[0, 0, 1]] * 7)

    def test_holds_them_to_the_same_play(self):
        for days, looks in fair_that_fits():
            for fine in (1, 2, 9):
                for misdeeds in range(1, 7):
                    heard = last(("begin", days, misdeeds, fine), ("fair", looks), ("dares",))
                    self.assertEqual(heard, [1 if looks == 0 and misdeeds >= days else 2])
                    self.check_dares_till_caught(days, looks, misdeeds, fine)

    def check_dares_till_caught(self, days, looks, misdeeds, fine):
        """To wait never gets more than to dare: so they dare each day, till they're caught or all is done."""
        tries = min(days, misdeeds)
        whole = sum(comb(days, few) * fine ** (looks - few) for few in range(looks + 1))
        unseen = [
            sum(comb(days - first, few) * fine ** (looks - few) for few in range(looks + 1))
            for first in range(1, tries + 1)
        ]
        heard = ask(("begin", days, misdeeds, fine), ("fair", looks), ("caught",), ("done",))
        self.assertEqual(value(heard[2]), 1 - Fraction(unseen[-1], whole))
        self.assertEqual(value(heard[3]), Fraction(sum(unseen), whole))

    def test_looks_on_each_day_as_likely(self):
        for days, looks in fair_that_fits():
            for fine in (1, 2, 9):
                calls = [("begin", days, 3, fine), ("fair", looks), ("bestlooked", looks), ("mean",)]
                heard = ask(*calls, *[("looked", day) for day in range(days)])[2:]
                mean = heard.pop(1)
                self.assertEqual(heard, [heard[0]] * (days + 1))
                self.assertEqual(value(mean), days * value(heard[0]))

    def test_looks_on_each_day_as_likely_where_fair_has_too_many_sets(self):
        for days, looks in ((4, 2), (5, 3), (5, 5)):
            for fine in (1, 4):
                chances = self.chances(days, looks, fine)
                self.assertEqual(sum(chances), 1)
                right = value(last(("begin", days, 1, fine), ("bestlooked", looks)))
                for day in range(days):
                    on_day = sum(chance for each, chance in enumerate(chances) if each >> day & 1)
                    self.assertEqual(on_day, right)

    def chances(self, days, looks, fine):
        calls = [("bestchance", looks, each) for each in range(1 << days)]
        return [value(answer) for answer in ask(("begin", days, 1, fine), *calls)[1:]]


class Gains(unittest.TestCase):
    def check(self, days, misdeeds, fine, plans):
        heard = ask(*laid(days, misdeeds, fine, plans), ("reply",), ("caught",), ("done",))[-3:]
        reply, caught, done = [value(answer) for answer in heard]
        self.assertEqual(reply, done - fine * caught)
        self.assertTrue(0 <= caught <= 1 and 0 <= done <= min(days, misdeeds))
        self.assertGreaterEqual(reply, 0)
        return reply

    def test_is_what_is_done_less_the_fine_and_nobody_answers_better(self):
        for days in (1, 2, 3):
            for turn, plans in enumerate(some_plans(days)):
                misdeeds = turn % 7
                fine = turn % 9 + 1
                self.assertEqual(self.check(days, misdeeds, fine, plans), max(best_gains(days, misdeeds, fine, plans)))

    def test_on_more_days(self):
        for days, fine, plans in some_on_more_days():
            for misdeeds in range(7):
                self.check(days, misdeeds, fine, plans)

    def test_by_the_best_plan(self):
        for days, looks in fair_that_fits():
            for misdeeds in range(7):
                heard = ask(("begin", days, misdeeds, 3), ("fair", looks), ("reply",), ("caught",), ("done",))[2:]
                reply, caught, done = [value(answer) for answer in heard]
                self.assertEqual(reply, done - 3 * caught)


if __name__ == "__main__":
    unittest.main()
