"""Calls by their names, for the tests: how they stand in a list, and a line of them asked."""

from harvestboat.boat import answers

MOST = 2 ** 32 - 1

NUMBERS = {
    "begin": 0, "cage": 1, "fish": 2, "order": 3, "wait": 4, "far": 5, "unloads": 6, "trip": 7, "run": 8,
    "bring": 9, "soonest": 10, "late": 11, "kept": 12, "washes": 13, "by_when": 14, "brought": 15,
    "filled": 16, "look": 17, "state": 18,
}

BEGIN_AS_TOLD = {"well": 1000, "speed": 10, "load": 100, "unload": 100, "wash": 5, "opens": 8, "closes": 16}


def begin(**other):
    """A begin that is taken, but for the numbers given."""
    return ("begin", *{**BEGIN_AS_TOLD, **other}.values())


def flat(*calls):
    """The list that stands for these calls."""
    numbers = []
    for name, *arguments in calls:
        numbers.append(NUMBERS[name])
        for argument in arguments:
            if isinstance(argument, list):
                numbers.append(len(argument))
                numbers.extend(argument)
            else:
                numbers.append(argument)
    return numbers


def each(told):
    """What was given back, as one list for each call."""
    parts = []
    place = 0
    while place < len(told):
        end = place + 1 + told[place]
        assert end <= len(told), "an answer is shorter than its count"
        parts.append(told[place + 1:end])
        place = end
    return parts


def ask(*calls):
    """What each call of a line answers."""
    parts = each(answers(flat(*calls)))
    assert len(parts) == len(calls), "each call has one answer"
    return parts


def last(*calls):
    """What the last call of a line answers."""
    return ask(*calls)[-1]
