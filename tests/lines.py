"""Calls as they stand in the list that answers() is handed, and their answers taken apart."""

from dutyrules.depot import answers

RULES = [600, 480, 240, 30, 10, 10, 5, 0, 100000]
TOP = 4294967295


def begins(rules=RULES):
    return [0] + list(rules)


def place(i, can_break=0, home=0):
    return [1, i, can_break, home]


def way(from_place, to_place, minutes):
    return [2, from_place, to_place, minutes]


def work(from_place, to_place, first, last):
    return [3, from_place, to_place, first, last]


def line(*calls):
    return [number for call in calls for number in call]


def numbers(*calls):
    """What is answered to calls that are answered with one number each; their counts are looked at, too."""
    given = answers(line(*calls))
    if given[0::2] != [1] * len(calls) or len(given) != 2 * len(calls):
        raise AssertionError(f"not one number for each of {len(calls)} calls: {given}")
    return given[1::2]


def drop(k):
    return [4, k]


def check(*pieces):
    return [5, len(pieces)] + list(pieces)


def best():
    return [6]


def never():
    return [7]


def each(*calls):
    """The answer to each call as a list of its own, without its count."""
    given = answers(line(*calls))
    apart = []
    at = 0
    while at < len(given):
        apart.append(given[at + 1:at + 1 + given[at]])
        at = at + 1 + given[at]
    if at != len(given) or len(apart) != len(calls):
        raise AssertionError(f"not an answer for each of {len(calls)} calls: {given}")
    return apart


def last(*calls):
    """The answer to the last one of these calls."""
    return each(*calls)[-1]


def duty(home, beginning, end, pay, *pieces):
    """A duty's list as it is answered, behind how many numbers it has."""
    return [4 + len(pieces), home, beginning, end, pay] + list(pieces)


def checked(wrong, told, worked, unbroken):
    """What check answers of a duty that has gaps and a home; told is its list, with its count."""
    return [wrong] + told + [2, worked, unbroken]


def rules(**told):
    """A call of begins with the rules of the beginning, but for those that are told here."""
    names = ["long", "work", "drive", "rest", "on", "off", "change", "least", "twice"]
    for name in told:
        if name not in names:
            raise AssertionError(f"no rule {name}")
    return begins([told.get(name, number) for name, number in zip(names, RULES)])
