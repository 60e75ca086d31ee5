"""The calls on one object: an inspector's plans of looks, drawn by lot, and what the other can make of them."""

from plansoflooks.daysets import agreeing, best_plan, fits, looking, sets_up_to, weight_of
from plansoflooks.play import Game
from plansoflooks.ratio import fraction

NO_SUCH_PLAN = -2
NO_PLANS = -6
NOT_BEGUN = -11
OUT_OF_RANGE = -22
TOO_MANY_PLANS = -28
NEVER_SEEN_SO = -33

MOST_DAYS = 6
MOST_MISDEEDS = 6
MOST_FINE = 9
MOST_PLANS = 10
MOST_WEIGHT = 1000


class Lots:
    """What one object keeps: the days, the misdeeds, the fine, and the plans told as pairs of set and weight."""

    def __init__(self):
        self.begun = False
        self.days = 0
        self.misdeeds = 0
        self.fine = 0
        self.plans = []


def is_misdeeds(number):
    return number <= MOST_MISDEEDS


def is_fine(number):
    return 1 <= number <= MOST_FINE


def is_weight(number):
    return 1 <= number <= MOST_WEIGHT


def begin(lots, days, misdeeds, fine):
    if not 1 <= days <= MOST_DAYS or not is_misdeeds(misdeeds) or not is_fine(fine):
        return [OUT_OF_RANGE]
    lots.begun = True
    lots.days = days
    lots.misdeeds = misdeeds
    lots.fine = fine
    lots.plans = []
    return [0]


def add_plan(lots, days_of_set, weight):
    if not fits(days_of_set, lots.days) or not is_weight(weight):
        return [OUT_OF_RANGE]
    if len(lots.plans) == MOST_PLANS:
        return [TOO_MANY_PLANS]
    lots.plans.append((days_of_set, weight))
    return [len(lots.plans) - 1]


def drop_plan(lots, place):
    if place >= len(lots.plans):
        return [NO_SUCH_PLAN]
    lots.plans.pop(place)
    return [len(lots.plans)]


def change_weight(lots, place, weight):
    if place >= len(lots.plans):
        return [NO_SUCH_PLAN]
    if not is_weight(weight):
        return [OUT_OF_RANGE]
    before = lots.plans[place]
    lots.plans[place] = (before[0], weight)
    return [before[1]]


def change_misdeeds(lots, misdeeds):
    if not is_misdeeds(misdeeds):
        return [OUT_OF_RANGE]
    before = lots.misdeeds
    lots.misdeeds = misdeeds
    return [before]


def change_fine(lots, fine):
    if not is_fine(fine):
        return [OUT_OF_RANGE]
    before = lots.fine
    lots.fine = fine
    return [before]


def make_fair(lots, looks):
    if looks > lots.days:
        return [OUT_OF_RANGE]
    if len(sets_up_to(lots.days, looks)) > MOST_PLANS:
        return [TOO_MANY_PLANS]
    lots.plans = best_plan(lots.days, looks, lots.fine)
    return [len(lots.plans)]


def told_fraction(above, below):
    return [0] + fraction(above, below)


def tell_reply(lots):
    gain = Game(lots.days, lots.fine).best(lots.plans, 0, lots.misdeeds)
    return told_fraction(gain, weight_of(lots.plans))


def tell_dares(lots):
    if lots.misdeeds == 0:
        return [0]
    game = Game(lots.days, lots.fine)
    daring = game.daring(lots.plans, 0, lots.misdeeds)
    waiting = game.waiting(lots.plans, 0, lots.misdeeds)
    if daring == waiting:
        return [2]
    return [1 if daring > waiting else 0]


def tell_seen(lots, day, seen, misdeeds):
    if day >= lots.days or not fits(seen, day) or not is_misdeeds(misdeeds):
        return [OUT_OF_RANGE]
    plans = agreeing(lots.plans, day, seen)
    if len(plans) == 0:
        return [NEVER_SEEN_SO]
    gain = Game(lots.days, lots.fine).best(plans, day, misdeeds)
    return told_fraction(gain, weight_of(plans))


def tell_looked(lots, day):
    if day >= lots.days:
        return [OUT_OF_RANGE]
    return told_fraction(weight_of(looking(lots.plans, day)), weight_of(lots.plans))


BEGIN = 0

# How many whole numbers stand behind each call's number: of all calls, so that any of them can be refused.
TAKES = (3, 2, 1, 2, 1, 1, 1, 0, 0, 3, 1, 0, 0, 1, 0, 2, 1, 0, 0, 0, 0)

# reply, dares, seen, looked, mean, most, over, caught, done, unlooked
ASKS_OF_PLANS = (7, 8, 9, 10, 11, 12, 14, 17, 18, 19)

# The calls that are written, each at its number.
ACTS = (
    begin,
    add_plan,
    drop_plan,
    change_weight,
    change_misdeeds,
    change_fine,
    make_fair,
    tell_reply,
    tell_dares,
    tell_seen,
    tell_looked,
)


def act_on(lots, number, given):
    act = ACTS[number]
    if len(given) == 0:
        return act(lots)
    if len(given) == 1:
        return act(lots, given[0])
    if len(given) == 2:
        return act(lots, given[0], given[1])
    return act(lots, given[0], given[1], given[2])


def answer_to(lots, number, given):
    """What one call answers; the refusals that come ahead of all its own stand here."""
    if number != BEGIN and not lots.begun:
        return [NOT_BEGUN]
    if number in ASKS_OF_PLANS and len(lots.plans) == 0:
        return [NO_PLANS]
    if number >= len(ACTS):
        raise NotImplementedError(f"call {number} is not written yet")
    return act_on(lots, number, given)


def answers(calls):
    """For each call in order how many numbers are answered, then these."""
    lots = Lots()
    told = []
    place = 0
    while place < len(calls):
        number = calls[place]
        behind = place + 1 + TAKES[number]
        answer = answer_to(lots, number, calls[place + 1:behind])
        told.append(len(answer))
        told.extend(answer)
        place = behind
    return told
