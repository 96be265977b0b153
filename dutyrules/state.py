"""A depot as it has been told: its rules, places, ways and pieces of work."""

PLACES = 20
MOST_WAYS = 40
MOST_PIECES = 7
# The bound of each rule, of a way's minutes and of a piece's last minute.
MOST = 100000
FIRST_RULES = (600, 480, 240, 30, 10, 10, 5, 0, 100000)
# Where each rule stands among the nine.
LONG = 0
WORK = 1
DRIVE = 2
REST = 3
ON = 4
OFF = 5
CHANGE = 6
LEAST = 7
TWICE = 8
# Where each number of a piece of work stands in it.
FROM_PLACE = 0
TO_PLACE = 1
FIRST = 2
LAST = 3


def is_place(place):
    """Whether there is such a place."""
    return place < PLACES


def is_way(from_place, to_place, minutes):
    """Whether a way is as told: from a place to another, of so many minutes."""
    return is_place(from_place) and is_place(to_place) and from_place != to_place and minutes <= MOST


def is_piece(from_place, to_place, first, last):
    """Whether a piece of work is as told: from a place to a place, from a minute to a later one."""
    return is_place(from_place) and is_place(to_place) and first < last and last <= MOST


class Depot:
    """What one line of calls is about. A call that is refused changes nothing in it."""

    def __init__(self):
        self.begin_anew(list(FIRST_RULES))

    def begin_anew(self, rules):
        """Keep these rules, and no breaks, homes, ways, pieces."""
        self.rules = rules
        self.can_break = [0] * PLACES
        self.homes = []
        self.ways = []
        self.shortest = {}
        self.pieces = []

    def begins(self, rules):
        """Begin with these rules: 0; or -1, a number above the bound."""
        if max(rules) > MOST:
            return -1
        self.begin_anew(list(rules))
        return 0

    def place(self, place, can_break, home):
        """Tell whether one can have a break there and whether it is a home: 0; or -1, no such place."""
        if not is_place(place):
            return -1
        self.can_break[place] = can_break
        # Homes stand in the order in which they were told; one that is told again counts as told now.
        if place in self.homes:
            self.homes.remove(place)
        if home == 1:
            self.homes.append(place)
        return 0

    def way(self, from_place, to_place, minutes):
        """Tell a way: its number; or -1, not as told; or -5, no room for another."""
        if not is_way(from_place, to_place, minutes):
            return -1
        if len(self.ways) == MOST_WAYS:
            return -5
        self.ways.append((from_place, to_place, minutes))
        both = (from_place, to_place)
        self.shortest[both] = min(minutes, self.shortest.get(both, minutes))
        return len(self.ways) - 1

    def minutes_to_get(self, from_place, to_place):
        """How long it takes from a place to another or to itself; None if one can't get there."""
        if from_place == to_place:
            return 0
        return self.shortest.get((from_place, to_place))

    def work(self, from_place, to_place, first, last):
        """Tell a piece of work: its number; or -1, not as told; or -5, no room for another."""
        if not is_piece(from_place, to_place, first, last):
            return -1
        if len(self.pieces) == MOST_PIECES:
            return -5
        self.pieces.append((from_place, to_place, first, last))
        return len(self.pieces) - 1

    def drop(self, number):
        """Forget a piece of work, those behind it move up: 0; or -2, there is no such piece."""
        if number >= len(self.pieces):
            return -2
        self.pieces.pop(number)
        return 0
