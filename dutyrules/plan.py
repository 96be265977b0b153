"""All work done: the duties with which nothing is wrong, the least paid ways, the pieces that fit nowhere."""

from dutyrules.duty import RIGHT, Duty


def numbers_in(members):
    """The pieces of a set, rising; in a set piece i counts 2^i."""
    return [number for number in range(members.bit_length()) if (members >> number) & 1 == 1]


def right_duties(depot):
    """For each set of pieces the duty that it makes if nothing is wrong with that, else None."""
    found = [None]
    for members in range(1, 1 << len(depot.pieces)):
        duty = Duty(depot, numbers_in(members))
        found.append(duty if duty.wrong == RIGHT else None)
    return found


class Plan:
    """The least paid ways to do some pieces: their pay, how many they are, the duties of the earliest."""

    def __init__(self, pay, alike, duties):
        self.pay = pay
        self.alike = alike
        self.duties = duties


def plan_for(left, right, plans):
    """The plan for a set of pieces, None if there is no way; of each lesser set there is the plan already."""
    lowest = left & -left
    found = None
    # The lowest piece's duty is told first: sets taken as they rise bring the earlier way ahead of the later.
    for members in range(lowest, left + 1):
        if (members & lowest) == 0 or (members & left) != members:
            continue
        behind = plans[left - members]
        if right[members] is None or behind is None:
            continue
        pay = right[members].pay + behind.pay
        if found is None or pay < found.pay:
            found = Plan(pay, behind.alike, [right[members]] + behind.duties)
        elif pay == found.pay:
            found.alike = found.alike + behind.alike
    return found


def best_plan(depot):
    """The plan for all pieces of a depot, None if there is no way."""
    right = right_duties(depot)
    plans = [Plan(0, 1, [])]
    for left in range(1, len(right)):
        plans.append(plan_for(left, right, plans))
    return plans[-1]


def pieces_never_done(depot):
    """The pieces that are in no duty with which nothing is wrong, rising."""
    done = {}
    for duty in right_duties(depot):
        if duty is not None:
            for number in duty.order:
                done[number] = True
    return [number for number in range(len(depot.pieces)) if number not in done]
