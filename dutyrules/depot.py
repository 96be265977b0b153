"""A line of calls on one depot: read one behind another, the answers put together in their order."""

from dutyrules.duty import NO_GAP, NO_HOME, Duty
from dutyrules.plan import best_plan, pieces_never_done
from dutyrules.state import Depot

BEGINS = 0
PLACE = 1
WAY = 2
WORK = 3
DROP = 4
CHECK = 5
BEST = 6
# How many numbers stand behind each call's own number, in the order of these; check's list comes behind its one.
NUMBERS_BEHIND = (9, 3, 3, 4, 1, 1, 0, 0)


def end_of_call(calls, at):
    """Where the call that begins at this index ends: the index of the next one."""
    end = at + 1 + NUMBERS_BEHIND[calls[at]]
    if calls[at] == CHECK:
        end = end + calls[at + 1]
    return end


def with_length(numbers):
    """A list as it stands in an answer: behind how many numbers it has."""
    return [len(numbers)] + numbers


def are_pieces(chosen, there_are):
    """Whether these are numbers of pieces, one or more, rising, where there are so many pieces."""
    for at in range(1, len(chosen)):
        if chosen[at - 1] >= chosen[at]:
            return False
    return len(chosen) > 0 and chosen[-1] < there_are


def check(depot, chosen):
    """What is wrong with the duty of these pieces, and what it comes to; or -2, not as told."""
    if not are_pieces(chosen, len(depot.pieces)):
        return [-2]
    duty = Duty(depot, chosen)
    if duty.wrong == NO_GAP or duty.wrong == NO_HOME:
        return [duty.wrong]
    return [duty.wrong] + with_length(duty.told()) + with_length([duty.worked, duty.unbroken])


def best(depot):
    """The least pay for all work, how many ways are paid that, and the earliest one's duties; or -6, no way."""
    plan = best_plan(depot)
    if plan is None:
        return [-6]
    answer = [plan.pay] + with_length([plan.alike])
    for duty in plan.duties:
        answer.extend(with_length(duty.told()))
    return answer


def never(depot):
    """How many pieces are in no duty with which nothing is wrong, and which."""
    numbers = pieces_never_done(depot)
    return [len(numbers)] + with_length(numbers)


def answer_of(depot, call, row):
    """What the depot answers to one call with its numbers: a list, of one number for a refusal."""
    if call == BEGINS:
        return [depot.begins(row)]
    if call == PLACE:
        return [depot.place(row[0], row[1], row[2])]
    if call == WAY:
        return [depot.way(row[0], row[1], row[2])]
    if call == WORK:
        return [depot.work(row[0], row[1], row[2], row[3])]
    if call == DROP:
        return [depot.drop(row[0])]
    if call == CHECK:
        return check(depot, row[1:])
    if call == BEST:
        return best(depot)
    return never(depot)


def answers(calls):
    """The answers to all calls on a new depot, each behind how many numbers it has."""
    depot = Depot()
    given = []
    at = 0
    while at < len(calls):
        end = end_of_call(calls, at)
        answer = answer_of(depot, calls[at], calls[at + 1:end])
        given.append(len(answer))
        given.extend(answer)
        at = end
    return given
