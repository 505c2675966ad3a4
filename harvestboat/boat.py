"""The interface: a list of calls on one object, and what they answer."""

from harvestboat.calls import CALLS, begin
from harvestboat.refusals import NOT_AS_TOLD, NOT_BEGUN

BEGIN = 0


def parted(calls):
    """Each call of the list as its number and its arguments, of which a row is one."""
    parts = []
    place = 0
    while place < len(calls):
        number = calls[place]
        end = place + 1 + CALLS[number][0]
        arguments = calls[place + 1:end]
        if CALLS[number][1]:
            start = end + 1
            end = start + calls[end]
            arguments.append(calls[start:end])
        parts.append((number, arguments))
        place = end
    return parts


def begun(arguments):
    """The harvest that begin makes of its seven numbers, or None."""
    return begin(
        arguments[0], arguments[1], arguments[2], arguments[3], arguments[4], arguments[5], arguments[6]
    )


def asked(harvest, number, arguments):
    """What a call other than begin answers on an object that is begun."""
    call = CALLS[number][2]
    if len(arguments) == 0:
        return call(harvest)
    if len(arguments) == 1:
        return call(harvest, arguments[0])
    if len(arguments) == 2:
        return call(harvest, arguments[0], arguments[1])
    return call(harvest, arguments[0], arguments[1], arguments[2])


def answers(calls):
    """For each call, in order, how many numbers it answers, then these."""
    told = []
    harvest = None
    for number, arguments in parted(calls):
        if number == BEGIN:
            made = begun(arguments)
            if made is None:
                answer = [NOT_AS_TOLD]
            else:
                harvest = made
                answer = [0]
        elif harvest is None:
            answer = [NOT_BEGUN]
        else:
            answer = asked(harvest, number, arguments)
        told.append(len(answer))
        told.extend(answer)
    return told
