"""Sets of days, told as numbers: day t counts 2 to the power of t. A plan is a pair of a set and its weight."""


def has_day(days_of_set, day):
    """Whether the set holds the day."""
    return (days_of_set >> day) & 1 == 1


def fits(days_of_set, days):
    """Whether the set holds only days below so many."""
    return days_of_set >> days == 0


def size(days_of_set):
    """How many days the set holds."""
    held = 0
    rest = days_of_set
    while rest > 0:
        held += rest & 1
        rest = rest >> 1
    return held


def sets_up_to(days, looks):
    """All sets of at most so many looks on so many days, by their numbers."""
    return [each for each in range(1 << days) if size(each) <= looks]


def power(base, times):
    """The base multiplied by itself so often; 1 if that's 0 times."""
    product = 1
    for turn in range(times):
        product = product * base
    return product


def best_plan(days, looks, fine):
    """The plans of the best plan of at most so many looks, by their sets' numbers."""
    return [(each, power(fine, looks - size(each))) for each in sets_up_to(days, looks)]


def looking(plans, day):
    """Those of the plans that look on the day."""
    return [plan for plan in plans if has_day(plan[0], day)]


def resting(plans, day):
    """Those of the plans that don't look on the day."""
    return [plan for plan in plans if not has_day(plan[0], day)]


def agreeing(plans, day, seen):
    """Those of the plans that look, of the days ahead of this one, just on those seen."""
    ahead = (1 << day) - 1
    return [plan for plan in plans if plan[0] & ahead == seen]


def weight_of(plans):
    """All weights together."""
    return sum([plan[1] for plan in plans])
