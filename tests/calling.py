"""Calls by their names, and what an object keeps, read through its calls alone."""

from itertools import combinations

from plansoflooks.lots import answers

NAMES = (
    "begin", "plan", "drop", "weight", "misdeeds", "fine", "fair", "reply", "dares", "seen", "looked",
    "mean", "most", "worth", "over", "bestchance", "bestlooked", "caught", "done", "unlooked", "told",
)
TAKES = (3, 2, 1, 2, 1, 1, 1, 0, 0, 3, 1, 0, 0, 1, 0, 2, 1, 0, 0, 0, 0)
LARGEST = 4294967295


def line_of(calls):
    """The one list that calls such as ("plan", 3, 1) are handed in as."""
    line = []
    for call in calls:
        number = NAMES.index(call[0])
        if len(call) - 1 != TAKES[number]:
            raise ValueError(f"{call[0]} takes {TAKES[number]} numbers")
        line.append(number)
        line.extend(call[1:])
    if not 1 <= len(calls) <= 60 or len(line) > 240:
        raise ValueError("no such line is handed in")
    return line


def parted(told, count):
    """The answers one by one; it fails where their counts don't hold."""
    parts = []
    place = 0
    while place < len(told):
        behind = place + 1 + told[place]
        parts.append(told[place + 1:behind])
        if len(parts[-1]) != told[place] or told[place] < 1:
            raise AssertionError(f"a wrong count at {place}: {told}")
        place = behind
    if len(parts) != count:
        raise AssertionError(f"{len(parts)} answers to {count} calls")
    return parts


def ask(*calls):
    """What each of the calls answers."""
    line = line_of(calls)
    kept = list(line)
    told = answers(line)
    if line != kept:
        raise AssertionError("the list handed in was changed")
    if type(told) is not list or any(type(number) is not int for number in told):
        raise AssertionError(f"not a list of whole numbers: {told}")
    return parted(told, len(calls))


def last(*calls):
    """What the last of the calls answers."""
    return ask(*calls)[-1]


def laid(days, misdeeds, fine, plans):
    """The calls that tell just these plans."""
    return [("begin", days, misdeeds, fine)] + [("plan",) + plan for plan in plans]


def some_plans(days):
    """A spread of up to four plans, sets twice among them, with weights that have little in common."""
    sets = list(range(1 << days)) * 2
    picked = [each for count in (1, 2, 3, 4) for each in combinations(sets, count)]
    step = max(1, len(picked) // 60)
    for turn, each in enumerate(picked[::step]):
        yield [(one, (turn * 7 + place * 11) % 13 + 1) for place, one in enumerate(each)]


def told_of(days, misdeeds, fine, plans):
    """What told is to answer of these."""
    return [days, misdeeds, fine, len(plans)] + [number for plan in plans for number in plan]


def state(*calls):
    """Days, misdeeds, fine and plans behind the calls; it fails where told tells them otherwise.

    Weights that are powers of 2 tell by looked which plans look on a day; fair tells by -22 which days are there.
    """
    probe = [("misdeeds", 0), ("fine", 1)]
    probe += [("weight", place, 1 << place) for place in range(10)]
    probe += [("looked", day) for day in range(6)]
    probe += [("fair", looks) for looks in range(1, 7)]
    heard = ask(*calls, ("told",), *probe)[len(calls):]
    told = heard.pop(0)
    days = len([answer for answer in heard[18:] if answer != [-22]])
    weights = [answer[0] for answer in heard[2:12] if answer != [-2]]
    sets = [0] * len(weights)
    for day in range(days if weights else 0):
        part = heard[12 + day][1] * ((1 << len(weights)) - 1) // heard[12 + day][2]
        for place in range(len(weights)):
            sets[place] += (part >> place & 1) << day
    found = days, heard[0][0], heard[1][0], list(zip(sets, weights))
    if told != told_of(*found):
        raise AssertionError(f"told {told}, but there are {found}")
    return found
