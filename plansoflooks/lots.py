"""The calls on one object: an inspector's plans of looks, drawn by lot, and what the other can make of them."""

from plansoflooks.daysets import agreeing, best_plan, fits, looking, sets_up_to, size, weight_of
from plansoflooks.play import Game
from plansoflooks.ratio import fraction

NO_SUCH_PLAN = -2
NO_PLANS = -6
NOT_BEGUN = -11
OUT_OF_RANGE = -22
TOO_MANY_PLANS = -28
NEVER_SEEN_SO = -33

MOST_DAYS = 6
MOST_MISDEEDS = 6
MOST_FINE = 9
MOST_PLANS = 10
MOST_WEIGHT = 1000


class Lots:
    """What one object keeps: the days, the misdeeds, the fine, and the plans told as pairs of set and weight."""

    def __init__(self):
        self.begun = False
        self.days = 0
        self.misdeeds = 0
        self.fine = 0
        self.plans = []


def is_misdeeds(number):
    return number <= MOST_MISDEEDS


def is_fine(number):
    return 1 <= number <= MOST_FINE


def is_weight(number):
    return 1 <= number <= MOST_WEIGHT


def begin(lots, days, misdeeds, fine):
    if not 1 <= days <= MOST_DAYS or not is_misdeeds(misdeeds) or not is_fine(fine):
        return [OUT_OF_RANGE]
    lots.begun = True
    lots.days = days
    lots.misdeeds = misdeeds
    lots.fine = fine
    lots.plans = []
    return [0]


def add_plan(lots, days_of_set, weight):
    if not fits(days_of_set, lots.days) or not is_weight(weight):
        return [OUT_OF_RANGE]
    if len(lots.plans) == MOST_PLANS:
        return [TOO_MANY_PLANS]
    lots.plans.append((days_of_set, weight))
    return [len(lots.plans) - 1]


def drop_plan(lots, place):
    if place >= len(lots.plans):
        return [NO_SUCH_PLAN]
    lots.plans.pop(place)
    return [len(lots.plans)]


def change_weight(lots, place, weight):
    if place >= len(lots.plans):
        return [NO_SUCH_PLAN]
    if not is_weight(weight):
        return [OUT_OF_RANGE]
    before = lots.plans[place]
    lots.plans[place] = (before[0], weight)
    return [before[1]]


def change_misdeeds(lots, misdeeds):
    if not is_misdeeds(misdeeds):
        return [OUT_OF_RANGE]
    before = lots.misdeeds
    lots.misdeeds = misdeeds
    return [before]


def change_fine(lots, fine):
    if not is_fine(fine):
        return [OUT_OF_RANGE]
    before = lots.fine
    lots.fine = fine
    return [before]


def make_fair(lots, looks):
    if looks > lots.days:
        return [OUT_OF_RANGE]
    if len(sets_up_to(lots.days, looks)) > MOST_PLANS:
        return [TOO_MANY_PLANS]
    lots.plans = best_plan(lots.days, looks, lots.fine)
    return [len(lots.plans)]


def told_fraction(above, below):
    return [0] + fraction(above, below)


def best_gain(lots, plans):
    """What the other can get at best by these plans, times their weight."""
    return Game(lots.days, lots.fine).best(plans, 0, lots.misdeeds)


def tell_reply(lots):
    return told_fraction(best_gain(lots, lots.plans), weight_of(lots.plans))


def tell_dares(lots):
    if lots.misdeeds == 0:
        return [0]
    game = Game(lots.days, lots.fine)
    daring = game.daring(lots.plans, 0, lots.misdeeds)
    waiting = game.waiting(lots.plans, 0, lots.misdeeds)
    if daring == waiting:
        return [2]
    return [1 if daring > waiting else 0]


def tell_seen(lots, day, seen, misdeeds):
    if day >= lots.days or not fits(seen, day) or not is_misdeeds(misdeeds):
        return [OUT_OF_RANGE]
    plans = agreeing(lots.plans, day, seen)
    if len(plans) == 0:
        return [NEVER_SEEN_SO]
    gain = Game(lots.days, lots.fine).best(plans, day, misdeeds)
    return told_fraction(gain, weight_of(plans))


def tell_looked(lots, day):
    if day >= lots.days:
        return [OUT_OF_RANGE]
    return told_fraction(weight_of(looking(lots.plans, day)), weight_of(lots.plans))


def tell_mean(lots):
    looks = sum([plan[1] * size(plan[0]) for plan in lots.plans])
    return told_fraction(looks, weight_of(lots.plans))


def most_looks(plans):
    return max([size(plan[0]) for plan in plans])


def tell_most(lots):
    return [most_looks(lots.plans)]


def tell_worth(lots, looks):
    if looks > lots.days:
        return [OUT_OF_RANGE]
    plans = best_plan(lots.days, looks, lots.fine)
    return told_fraction(best_gain(lots, plans), weight_of(plans))


def tell_over(lots):
    plans = best_plan(lots.days, most_looks(lots.plans), lots.fine)
    weight = weight_of(lots.plans)
    best_weight = weight_of(plans)
    more = best_gain(lots, lots.plans) * best_weight - best_gain(lots, plans) * weight
    return told_fraction(more, weight * best_weight)


def tell_best_chance(lots, looks, days_of_set):
    if looks > lots.days or not fits(days_of_set, lots.days):
        return [OUT_OF_RANGE]
    plans = best_plan(lots.days, looks, lots.fine)
    drawn = [plan for plan in plans if plan[0] == days_of_set]
    return told_fraction(weight_of(drawn), weight_of(plans))


def tell_best_looked(lots, looks):
    if looks > lots.days:
        return [OUT_OF_RANGE]
    plans = best_plan(lots.days, looks, lots.fine)
    return told_fraction(weight_of(looking(plans, 0)), weight_of(plans))


def outcome(lots):
    """How often they're caught and how many misdeeds are done unseen, each times the weight of the plans told."""
    return Game(lots.days, lots.fine).played(lots.plans, 0, lots.misdeeds)


def tell_caught(lots):
    return told_fraction(outcome(lots)[0], weight_of(lots.plans))


def tell_done(lots):
    return told_fraction(outcome(lots)[1], weight_of(lots.plans))


def tell_unlooked(lots):
    without = [plan for plan in lots.plans if plan[0] == 0]
    return told_fraction(weight_of(without), weight_of(lots.plans))


def tell_all(lots):
    told = [lots.days, lots.misdeeds, lots.fine, len(lots.plans)]
    for plan in lots.plans:
        told.extend(plan)
    return told


BEGIN = 0

# How many whole numbers stand behind each call's number.
TAKES = (3, 2, 1, 2, 1, 1, 1, 0, 0, 3, 1, 0, 0, 1, 0, 2, 1, 0, 0, 0, 0)

# reply, dares, seen, looked, mean, most, over, caught, done, unlooked
ASKS_OF_PLANS = (7, 8, 9, 10, 11, 12, 14, 17, 18, 19)

# What does each call, at its number.
ACTS = (
    begin,
    add_plan,
    drop_plan,
    change_weight,
    change_misdeeds,
    change_fine,
    make_fair,
    tell_reply,
    tell_dares,
    tell_seen,
    tell_looked,
    tell_mean,
    tell_most,
    tell_worth,
    tell_over,
    tell_best_chance,
    tell_best_looked,
    tell_caught,
    tell_done,
    tell_unlooked,
    tell_all,
)


def act_on(lots, number, given):
    act = ACTS[number]
    if len(given) == 0:
        return act(lots)
    if len(given) == 1:
        return act(lots, given[0])
    if len(given) == 2:
        return act(lots, given[0], given[1])
    return act(lots, given[0], given[1], given[2])


def answer_to(lots, number, given):
    """What one call answers; the refusals that come ahead of all its own stand here."""
    if number != BEGIN and not lots.begun:
        return [NOT_BEGUN]
    if number in ASKS_OF_PLANS and len(lots.plans) == 0:
        return [NO_PLANS]
    return act_on(lots, number, given)


def answers(calls):
    """For each call in order how many numbers are answered, then these."""
    lots = Lots()
    told = []
    place = 0
    while place < len(calls):
        number = calls[place]
        behind = place + 1 + TAKES[number]
        answer = answer_to(lots, number, calls[place + 1:behind])
        told.append(len(answer))
        told.extend(answer)
        place = behind
    return told
