"""The best gain by trying every way to play: slow, and nothing in common with how the program finds it."""

from fractions import Fraction
from itertools import product


def gain(way, plan, days, day, seen, misdeeds, fine):
    """What one way to play gains against one set of looks."""
    gained = 0
    for today in range(day, days):
        looked_at = plan >> today & 1
        if way[today, seen] and misdeeds > 0:
            if looked_at:
                return gained - fine
            gained += 1
            misdeeds -= 1
        seen += looked_at << today
    return gained


def ways(days, day, seen):
    """Each way to play from the day on: to dare or not, for each day and each set seen till then."""
    spots = [
        (today, seen + (part << day))
        for today in range(day, days)
        for part in range(1 << (today - day))
    ]
    for choice in product((False, True), repeat=len(spots)):
        yield dict(zip(spots, choice))


def best_gains(days, misdeeds, fine, plans, day=0, seen=0):
    """The best means of waiting and of daring on the day, as a pair."""
    left = [plan for plan in plans if plan[0] % (1 << day) == seen]
    weight = sum(plan[1] for plan in left)
    best = [None, None]
    for way in ways(days, day, seen):
        total = sum(plan[1] * gain(way, plan[0], days, day, seen, misdeeds, fine) for plan in left)
        dares = int(way[day, seen])
        if best[dares] is None or total > best[dares]:
            best[dares] = total
    return Fraction(best[0], weight), Fraction(best[1], weight)


def told(value):
    return [0, value.numerator, value.denominator]
