"""A line of calls on one depot: read one behind another, the answers put together in their order."""

from dutyrules.state import Depot

BEGINS = 0
PLACE = 1
WAY = 2
WORK = 3
# How many numbers stand behind each call's own number, in the order of these.
NUMBERS_BEHIND = (9, 3, 3, 4)


def end_of_call(calls, at):
    """Where the call that begins at this index ends: the index of the next one."""
    return at + 1 + NUMBERS_BEHIND[calls[at]]


def answer_of(depot, call, row):
    """What the depot answers to one call with its numbers: a list, of one number for a refusal."""
    if call == BEGINS:
        return [depot.begins(row)]
    if call == PLACE:
        return [depot.place(row[0], row[1], row[2])]
    if call == WAY:
        return [depot.way(row[0], row[1], row[2])]
    return [depot.work(row[0], row[1], row[2], row[3])]


def answers(calls):
    """The answers to all calls on a new depot, each behind how many numbers it has."""
    depot = Depot()
    given = []
    at = 0
    while at < len(calls):
        end = end_of_call(calls, at)
        answer = answer_of(depot, calls[at], calls[at + 1:end])
        given.append(len(answer))
        given.extend(answer)
        at = end
    return given
