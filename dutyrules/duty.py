"""A duty: some pieces of work in their order, with what is wrong with it, its home, its times and its pay."""

from dutyrules.state import CHANGE, DRIVE, FIRST, FROM_PLACE, LAST, LEAST, LONG, OFF, ON, REST, TO_PLACE, TWICE, WORK

RIGHT = 0
NO_GAP = 1
NO_HOME = 2
TOO_LONG = 3
TOO_MUCH_WORK = 4
TOO_LONG_UNBROKEN = 5


def in_order(pieces, chosen):
    """These pieces' numbers in order of their first minutes, of one minute by the numbers."""
    return sorted(chosen, key=lambda number: (pieces[number][FIRST], number))


def length_of(piece):
    """How many minutes a piece of work takes."""
    return piece[LAST] - piece[FIRST]


def gap_between(depot, piece, behind):
    """The time between two neighbours, less the way; None if they have no gap."""
    minutes = depot.minutes_to_get(piece[TO_PLACE], behind[FROM_PLACE])
    if minutes is None or piece[LAST] + minutes + depot.rules[CHANGE] > behind[FIRST]:
        return None
    return behind[FIRST] - piece[LAST] - minutes


def gaps_between(depot, pieces):
    """The gaps behind all pieces of a duty but its last, None for each that there isn't."""
    return [gap_between(depot, pieces[at - 1], pieces[at]) for at in range(1, len(pieces))]


def is_break(depot, piece, behind, gap):
    """Whether this gap between two neighbours is a break."""
    at_end = depot.can_break[piece[TO_PLACE]] == 1
    at_beginning = depot.can_break[behind[FROM_PLACE]] == 1
    return gap >= depot.rules[REST] and (at_end or at_beginning)


def most_unbroken(depot, pieces, gaps):
    """The most that pieces of a duty are together without a break between."""
    together = length_of(pieces[0])
    most = together
    for at in range(1, len(pieces)):
        if is_break(depot, pieces[at - 1], pieces[at], gaps[at - 1]):
            together = 0
        together = together + length_of(pieces[at])
        most = max(most, together)
    return most


def home_of(depot, first_piece, last_piece):
    """The home from which the way there and the way back take the least together; None if there is none."""
    found = None
    fewest = 0
    # Homes stand in the order in which they were told: of several alike the first one is kept.
    for home in depot.homes:
        there = depot.minutes_to_get(home, first_piece[FROM_PLACE])
        back = depot.minutes_to_get(last_piece[TO_PLACE], home)
        if there is None or back is None:
            continue
        if found is None or there + back < fewest:
            found = home
            fewest = there + back
    return found


def pay_for(rules, minutes):
    """What a duty of so many minutes is paid."""
    return max(rules[LEAST], minutes + max(0, minutes - rules[TWICE]))


class Duty:
    """Some pieces of a depot as a duty. Where no gap or no home is what is wrong, it has no times and no pay."""

    def __init__(self, depot, chosen):
        self.order = in_order(depot.pieces, chosen)
        pieces = [depot.pieces[number] for number in self.order]
        gaps = gaps_between(depot, pieces)
        self.home = home_of(depot, pieces[0], pieces[-1])
        if None in gaps:
            self.wrong = NO_GAP
        elif self.home is None:
            self.wrong = NO_HOME
        else:
            self.reckon(depot, pieces, gaps)
            self.wrong = self.beyond(depot.rules)

    def reckon(self, depot, pieces, gaps):
        """Find out when it begins and ends, what it is paid and how long is worked."""
        there = depot.minutes_to_get(self.home, pieces[0][FROM_PLACE])
        back = depot.minutes_to_get(pieces[-1][TO_PLACE], self.home)
        self.beginning = pieces[0][FIRST] - there - depot.rules[ON]
        self.end = pieces[-1][LAST] + back + depot.rules[OFF]
        self.pay = pay_for(depot.rules, self.end - self.beginning)
        self.worked = sum([length_of(piece) for piece in pieces])
        self.unbroken = most_unbroken(depot, pieces, gaps)

    def beyond(self, rules):
        """Which bound it is the first to go beyond, 0 if none."""
        if self.end - self.beginning > rules[LONG]:
            return TOO_LONG
        if self.worked > rules[WORK]:
            return TOO_MUCH_WORK
        if self.unbroken > rules[DRIVE]:
            return TOO_LONG_UNBROKEN
        return RIGHT

    def told(self):
        """Its home, beginning, end, pay, and its pieces in order."""
        return [self.home, self.beginning, self.end, self.pay] + self.order
