"""The best play by trying every way: slow, and nothing in common with how the program finds it."""

from fractions import Fraction
from itertools import product


def follow(way, plan, days, day, seen, misdeeds):
    """Whether one way to play is caught by one set of looks, and how many misdeeds it does unseen."""
    done = 0
    for today in range(day, days):
        looked_at = plan >> today & 1
        if way[today, seen] and misdeeds > 0:
            if looked_at:
                return 1, done
            done += 1
            misdeeds -= 1
        seen += looked_at << today
    return 0, done


def gain(way, plan, days, day, seen, misdeeds, fine):
    """What one way to play gains against one set of looks."""
    caught, done = follow(way, plan, days, day, seen, misdeeds)
    return done - fine * caught


def ways(plans, days, day):
    """Each way to play from the day on: to dare or not, on each day and with each set that may be seen till then.

    Of two ways the one comes behind that dares on the first day, and what's seen till then, where they differ.
    """
    spots = sorted({(today, plan[0] % (1 << today)) for today in range(day, days) for plan in plans})
    for choice in product((False, True), repeat=len(spots)):
        yield dict(zip(spots, choice))


def best_gains(days, misdeeds, fine, plans, day=0, seen=0):
    """The best means of waiting and of daring on the day, as a pair."""
    left = [plan for plan in plans if plan[0] % (1 << day) == seen]
    weight = sum(plan[1] for plan in left)
    best = [None, None]
    for way in ways(left, days, day):
        total = sum(plan[1] * gain(way, plan[0], days, day, seen, misdeeds, fine) for plan in left)
        dares = int(way[day, seen])
        if best[dares] is None or total > best[dares]:
            best[dares] = total
    return Fraction(best[0], weight), Fraction(best[1], weight)


def daring_play(days, misdeeds, fine, plans):
    """How likely they're caught and how much is done unseen by the best way that dares wherever a best way does.

    What is done in one spot bears on no other spot of the same day: so that's the last of the best ways.
    """
    weight = sum(plan[1] for plan in plans)
    best = None
    for way in ways(plans, days, 0):
        gained = sum(plan[1] * gain(way, plan[0], days, 0, 0, misdeeds, fine) for plan in plans)
        if best is None or gained >= best[0]:
            best = gained, way
    outcomes = [(plan[1], follow(best[1], plan[0], days, 0, 0, misdeeds)) for plan in plans]
    caught = sum(heavy * outcome[0] for heavy, outcome in outcomes)
    done = sum(heavy * outcome[1] for heavy, outcome in outcomes)
    return Fraction(caught, weight), Fraction(done, weight)


def told(value):
    return [0, value.numerator, value.denominator]
