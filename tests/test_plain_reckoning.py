"""Many made-up lines, answered again by a slow and plain reckoning that shares no code with the program."""

import random
import unittest

from dutyrules.depot import answers
from lines import RULES, best, check, drop, each, line, never, place, rules, way, work

LINES = 300


def partitions(members):
    """Every way to put these together in groups, each group with all that it may hold tried."""
    if not members:
        return [[]]
    found = []
    head, tail = members[0], members[1:]
    for groups in partitions(tail):
        found.append([[head]] + groups)
        for at in range(len(groups)):
            found.append([[head] + groups[at]] + groups[:at] + groups[at + 1:])
    return found


class PlainDepot:
    """The document's words one by one, nothing kept but what was told."""

    def __init__(self):
        self.begin(RULES)

    def begin(self, told):
        (self.long, self.work, self.drive, self.rest, self.on, self.off, self.change, self.least,
         self.twice) = told
        self.breaks, self.homes, self.ways, self.pieces = set(), [], [], []

    def minutes(self, a, b):
        if a == b:
            return 0
        return min([m for f, t, m in self.ways if (f, t) == (a, b)], default=float("inf"))

    def judge(self, members):
        """What is wrong, the duty's list, and its two numbers."""
        order = sorted(members, key=lambda i: (self.pieces[i][2], i))
        row = [self.pieces[i] for i in order]
        for (f1, t1, a1, b1), (f2, t2, a2, b2) in zip(row, row[1:]):
            if b1 + self.minutes(t1, f2) + self.change > a2:
                return 1, None, None
        both = [self.minutes(home, row[0][0]) + self.minutes(row[-1][1], home) for home in self.homes]
        if min(both, default=float("inf")) == float("inf"):
            return 2, None, None
        home = self.homes[both.index(min(both))]
        beginning = row[0][2] - self.minutes(home, row[0][0]) - self.on
        end = row[-1][3] + self.minutes(row[-1][1], home) + self.off
        pay = sum(2 if minute >= self.twice else 1 for minute in range(end - beginning))
        lengths = [piece[3] - piece[2] for piece in row]
        stretches = [[lengths[0]]]
        for at in range(1, len(row)):
            end_place, begin_place = row[at - 1][1], row[at][0]
            rests = row[at][2] - row[at - 1][3] - self.minutes(end_place, begin_place) >= self.rest
            if rests and {end_place, begin_place} & self.breaks:
                stretches.append([])
            stretches[-1].append(lengths[at])
        most = max(sum(stretch) for stretch in stretches)
        bounds = [(end - beginning, self.long), (sum(lengths), self.work), (most, self.drive)]
        wrong = next((3 + at for at, (is_so, bound) in enumerate(bounds) if is_so > bound), 0)
        return wrong, [home, beginning, end, max(pay, self.least)] + order, [sum(lengths), most]

    def check(self, told):
        rising = all(a < b for a, b in zip(told, told[1:]))
        if not told or not rising or told[-1] >= len(self.pieces):
            return [-2]
        wrong, duty, lengths = self.judge(told)
        return [wrong] if wrong in (1, 2) else [wrong, len(duty)] + duty + [2] + lengths

    def all_duties(self):
        judged = {}
        for members in range(1, 2 ** len(self.pieces)):
            wrong, duty, lengths = self.judge([i for i in range(7) if members & 2 ** i])
            if wrong == 0:
                judged[members] = duty
        return judged

    def best(self):
        right = self.all_duties()
        ways = []
        for groups in partitions(list(range(len(self.pieces)))):
            masks = [sum(2 ** i for i in group) for group in sorted(groups, key=min)]
            if all(mask in right for mask in masks):
                ways.append((sum(right[mask][3] for mask in masks), masks))
        if not ways:
            return [-6]
        pay, masks = min(ways)
        answer = [pay, 1, len([way for way in ways if way[0] == pay])]
        for mask in masks:
            answer = answer + [len(right[mask])] + right[mask]
        return answer

    def never(self):
        done = {i for duty in self.all_duties().values() for i in duty[4:]}
        left = [i for i in range(len(self.pieces)) if i not in done]
        return [len(left), len(left)] + left

    def place(self, i, can_break, home):
        self.breaks = (self.breaks | {i}) if can_break else (self.breaks - {i})
        self.homes = [other for other in self.homes if other != i] + [i] * home
        return [0]

    def answer(self, call):
        """What is answered to a call; of those that tell a way or a piece only such as are taken are asked."""
        kind, row = call[0], call[1:]
        if kind == 0:
            self.begin(row)
            return [0]
        if kind == 1:
            return self.place(*row)
        if kind == 2:
            self.ways = self.ways + [tuple(row)]
            return [len(self.ways) - 1]
        if kind == 3:
            self.pieces = self.pieces + [tuple(row)]
            return [len(self.pieces) - 1]
        if kind == 4:
            if row[0] >= len(self.pieces):
                return [-2]
            self.pieces = self.pieces[:row[0]] + self.pieces[row[0] + 1:]
            return [0]
        return [lambda: self.check(row[1:]), self.best, self.never][kind - 5]()


def made_up_line(source):
    """A depot with few places and near minutes, so that all that can be wrong comes up, and alike pay, too."""
    step = source.choice([1, 5, 10])
    calls = [rules(
        long=source.choice([60, 150, 300, 600]), work=source.choice([15, 40, 60, 200]),
        drive=source.choice([20, 30, 60, 200]), rest=source.choice([0, step, 2 * step, 30]),
        on=source.choice([0, 5, 10]), off=source.choice([0, 5, 10]), change=source.choice([0, 0, step, 5]),
        least=source.choice([0, 0, 50, 100]), twice=source.choice([30, 80, 100000]))]
    places = source.choice([1, 2, 3, 4])
    calls = calls + [place(i, source.randrange(2), int(source.random() < 0.7)) for i in range(places)]
    for told in range(source.randrange(3) + (places - 1) * source.choice([1, 4])):
        from_place, to_place = source.sample(range(places + 1), 2)
        calls.append(way(from_place, to_place, step * source.randrange(4)))
    count = source.choice([1, 3, 5, 6, 7])
    for told in range(count):
        first = step * source.randrange(30)
        calls.append(work(source.randrange(places), source.randrange(places), first,
                          first + step * source.randrange(1, 6)))
    calls = calls + [best(), never(), check(*range(count)), drop(source.randrange(count + 1))]
    for told in range(12):
        calls.append(check(*sorted(source.sample(range(count), source.randrange(1, count + 1)))))
    again = place(source.randrange(places), source.randrange(2), source.randrange(2))
    return calls + [best(), never(), again, best(), never()]


def kind_of(call, answer):
    """What an answer tells, so that it is seen whether all kinds came up."""
    if call[0] == 5:
        return f"check {answer[0]}"
    if call[0] == 6 and answer[0] != 0:
        return "best no way" if answer == [-6] else "best one way" if answer[2] == 1 else "best several ways"
    if call[0] == 7:
        return "never none" if answer[0] == 0 else "never some"
    return "another"


class PlainReckoningTest(unittest.TestCase):
    def test_made_up_lines(self):
        source = random.Random(20)
        seen = {}
        for number in range(LINES):
            calls = made_up_line(source)
            self.assertLessEqual(len(calls), 60)
            plain = PlainDepot()
            for call, answer in zip(calls, each(*calls)):
                self.assertEqual(answer, plain.answer(call), f"line {number}, call {call}: {line(*calls)}")
                kind = kind_of(call, answer)
                seen[kind] = seen.get(kind, 0) + 1
        kinds = [f"check {told}" for told in (-2, 0, 1, 2, 3, 4, 5)]
        for kind in kinds + ["best no way", "best one way", "best several ways", "never none", "never some"]:
            self.assertGreater(seen.get(kind, 0), 20, kind)

    def test_all_ways_of_seven(self):
        self.assertEqual([len(partitions(list(range(count)))) for count in range(8)], [1, 1, 2, 5, 15, 52, 203, 877])

    def test_the_plain_one_is_not_the_program(self):
        self.assertEqual(answers(best()), [3] + PlainDepot().best())


if __name__ == "__main__":
    unittest.main()
