"""Calls as they stand in the list that answers() is handed, and the answers of one number each."""

from dutyrules.depot import answers

RULES = [600, 480, 240, 30, 10, 10, 5, 0, 100000]
TOP = 4294967295


def begins(rules=RULES):
    return [0] + list(rules)


def place(i, can_break=0, home=0):
    return [1, i, can_break, home]


def way(from_place, to_place, minutes):
    return [2, from_place, to_place, minutes]


def work(from_place, to_place, first, last):
    return [3, from_place, to_place, first, last]


def line(*calls):
    return [number for call in calls for number in call]


def numbers(*calls):
    """What is answered to calls that are answered with one number each; their counts are looked at, too."""
    given = answers(line(*calls))
    if given[0::2] != [1] * len(calls) or len(given) != 2 * len(calls):
        raise AssertionError(f"not one number for each of {len(calls)} calls: {given}")
    return given[1::2]
