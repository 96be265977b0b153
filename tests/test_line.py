"""What holds over a whole line of calls: what changes nothing, what begins leaves, many calls in one line."""

import unittest

from dutyrules.depot import answers
from lines import RULES, TOP, begins, best, check, checked, drop, duty, each, last, line, never, place, rules, way, work

# A depot of which every call's answer depends on the rules, a break, two homes, ways and pieces.
DEPOT = [
    rules(drive=110, least=40, twice=200), place(0, 0, 1), place(1, 1, 0), place(5, 0, 1),
    way(0, 1, 7), way(1, 0, 8), way(1, 2, 20), way(5, 3, 4), way(3, 5, 4), way(2, 5, 90), way(2, 1, 30),
    work(0, 1, 100, 160), work(2, 0, 240, 300), work(1, 1, 310, 340), work(3, 3, 350, 400), work(4, 4, 1, 2),
]
ASKED = [check(0), check(1), check(0, 1), check(0, 1, 2), check(3), check(4), check(1, 2), best(), never()]
REFUSED = [
    begins([TOP] * 9), begins(RULES[:8] + [100001]), place(20, 1, 1), place(TOP, 0, 0), way(1, 1, 1), way(20, 0, 1),
    way(0, 1, 100001), work(0, 20, 1, 2), work(0, 0, 5, 5), work(0, 0, 5, 100001), drop(5), drop(TOP), check(),
    check(0, 0), check(1, 0), check(5), check(TOP), check(*[0] * 20),
]


def asked(*calls):
    """What is answered to all of ASKED behind these calls."""
    return each(*calls, *ASKED)[len(calls):]


class UnchangedTest(unittest.TestCase):
    def test_what_the_depot_answers(self):
        self.assertEqual(asked(*DEPOT), [
            checked(0, duty(0, 90, 178, 88, 0), 60, 60),
            [2],
            checked(0, duty(0, 90, 310, 240, 0, 1), 120, 60),
            [1],
            checked(0, duty(5, 336, 414, 78, 3), 50, 50),
            [2],
            [1],
            [-6],
            [1, 1, 4],
        ])
        without = DEPOT + [drop(4)]
        self.assertEqual(last(*without, best()),
                         [240 + 65 + 78, 1, 1] + duty(0, 90, 310, 240, 0, 1) + duty(0, 293, 358, 65, 2)
                         + duty(5, 336, 414, 78, 3))

    def test_check_best_and_never_change_nothing(self):
        expected = asked(*DEPOT)
        for call in ASKED:
            with self.subTest(call=call):
                self.assertEqual(asked(*DEPOT, call, call), expected)
        self.assertEqual(asked(*DEPOT, *ASKED, *ASKED), expected)

    def test_they_change_nothing_where_there_is_a_way(self):
        told = DEPOT + [drop(4)]
        expected = asked(*told)
        self.assertGreater(expected[-2][0], 0)
        self.assertEqual(asked(*told, *ASKED, *ASKED), expected)

    def test_they_change_nothing_ahead_of_what_is_told(self):
        self.assertEqual(asked(*[call for told in DEPOT for call in (told, best(), never())]), asked(*DEPOT))
        self.assertEqual(asked(*[call for told in DEPOT for call in (told, check(0), check(0, 1))]), asked(*DEPOT))

    def test_every_refusal_changes_nothing(self):
        expected = asked(*DEPOT)
        for call in REFUSED:
            with self.subTest(call=call):
                self.assertLess(last(*DEPOT, call)[0], 0)
                self.assertEqual(asked(*DEPOT, call), expected)
        self.assertEqual(asked(*DEPOT, *REFUSED), expected)

    def test_a_refusal_for_want_of_room_changes_nothing(self):
        told = DEPOT + [work(0, 0, 500, 501), work(0, 0, 600, 601)]
        given = each(*told, work(0, 0, 700, 701), *ASKED)
        self.assertEqual(given[len(told)], [-5])
        self.assertEqual(given[len(told) + 1:], asked(*told))
        told = DEPOT + [way(7, 8, 1)] * 33
        given = each(*told, way(0, 1, 1), *ASKED)
        self.assertEqual(given[len(told) - 1:len(told) + 1], [[39], [-5]])
        self.assertEqual(given[len(told) + 1:], asked(*DEPOT))

    def test_a_best_without_a_way_changes_nothing(self):
        self.assertEqual(each(*DEPOT, best(), drop(4), best())[-3:],
                         [[-6], [0], last(*DEPOT, drop(4), best())])

    def test_a_refusal_is_its_number_alone(self):
        for call in REFUSED:
            with self.subTest(call=call):
                self.assertEqual(len(last(*DEPOT, call)), 1)
        self.assertEqual(answers(line(*DEPOT, best()))[-2:], [1, -6])


class BeginsLeavesNothingTest(unittest.TestCase):
    def test_as_a_new_depot(self):
        told = [place(0, 0, 1), place(3, 1, 1), way(0, 1, 9), work(0, 0, 100, 110), work(3, 3, 200, 210)]
        self.assertEqual(asked(*DEPOT, begins(), *told), asked(*told))
        self.assertEqual(asked(*DEPOT, begins()), asked())
        self.assertEqual(asked()[-2:], [[0, 1, 1], [0, 0]])

    def test_no_pieces(self):
        given = each(*DEPOT, begins(), best(), never(), check(0), drop(0))
        self.assertEqual(given[-4:], [[0, 1, 1], [0, 0], [-2], [-2]])

    def test_no_homes(self):
        self.assertEqual(last(place(0, 0, 1), begins(), work(0, 0, 1, 2), check(0)), [2])

    def test_no_breaks(self):
        pieces = [work(0, 0, 100, 200), work(0, 0, 300, 400)]
        self.assertEqual(last(place(0, 1, 1), *pieces, check(0, 1))[-1], 100)
        self.assertEqual(last(place(0, 1, 1), begins(), place(0, 0, 1), *pieces, check(0, 1))[-1], 200)
        self.assertEqual(last(place(1, 1, 0), begins(), place(0, 0, 1), *pieces, check(0, 1))[-1], 200)

    def test_no_ways(self):
        told = [place(0, 0, 1), work(0, 1, 1, 2), check(0)]
        self.assertEqual(last(way(1, 0, 1), *told)[0], 0)
        self.assertEqual(last(way(1, 0, 1), begins(), *told), [2])
        self.assertEqual(last(way(1, 0, 1), begins(), way(1, 0, 9), *told), checked(0, duty(0, -9, 21, 30, 0), 1, 1))

    def test_these_rules_and_no_others(self):
        told = [place(0, 1, 1), work(0, 0, 100, 200), work(0, 0, 300, 400), check(0, 1)]
        self.assertEqual(last(rules(on=1, off=2, least=500), begins(), *told),
                         checked(0, duty(0, 90, 410, 320, 0, 1), 200, 100))
        self.assertEqual(last(begins(), rules(on=1, off=2, least=500), *told),
                         checked(0, duty(0, 99, 402, 500, 0, 1), 200, 100))
        self.assertEqual(last(*told[:-1], begins([0] * 9), *told),
                         checked(3, duty(0, 100, 400, 600, 0, 1), 200, 100))

    def test_each_rule_stands_in_its_place(self):
        told = [place(0, 0, 1), place(1, 1, 0), way(1, 2, 20), work(0, 1, 100, 200), work(2, 0, 300, 350), check(0, 1)]
        # 100 to 350 minutes, 7 ahead and 13 behind: 270.
        self.assertEqual(last(begins([270, 150, 100, 80, 7, 13, 80, 0, 269]), *told),
                         checked(0, duty(0, 93, 363, 271, 0, 1), 150, 100))
        self.assertEqual(last(begins([269, 150, 100, 80, 7, 13, 80, 0, 269]), *told)[0], 3)
        self.assertEqual(last(begins([270, 149, 100, 80, 7, 13, 80, 0, 269]), *told)[0], 4)
        self.assertEqual(last(begins([270, 150, 99, 80, 7, 13, 80, 0, 269]), *told)[0], 5)
        self.assertEqual(last(begins([270, 150, 100, 81, 7, 13, 80, 0, 269]), *told)[0], 5)
        self.assertEqual(last(begins([271, 150, 100, 80, 8, 13, 80, 0, 269]), *told)[1:6], [6, 0, 92, 363, 273])
        self.assertEqual(last(begins([271, 150, 100, 80, 7, 14, 80, 0, 269]), *told)[1:6], [6, 0, 93, 364, 273])
        self.assertEqual(last(begins([270, 150, 100, 80, 7, 13, 81, 0, 269]), *told), [1])
        self.assertEqual(last(begins([270, 150, 100, 80, 7, 13, 80, 272, 269]), *told)[5], 272)
        self.assertEqual(last(begins([270, 150, 100, 80, 7, 13, 80, 0, 268]), *told)[5], 272)

    def test_one_behind_another(self):
        told = [begins(), place(0, 0, 1), work(0, 0, 1, 2), best()]
        given = each(*told, *told, *told)
        self.assertEqual([given[3], given[7], given[11]], [[21, 1, 1] + duty(0, -9, 12, 21, 0)] * 3)

    def test_a_new_line_begins_anew(self):
        answers(line(*DEPOT, rules(on=100)))
        self.assertEqual(last(place(0, 0, 1), work(0, 0, 1, 2), check(0)), checked(0, duty(0, -9, 12, 21, 0), 1, 1))


class WholeLineTest(unittest.TestCase):
    SEVEN = [work(0, 0, 100 + 30 * i, 110 + 30 * i) for i in range(7)]
    # Seven pieces that are paid alike, whatever neighbours are together.
    APART = [210, 1, 64] + [number for i in range(7) for number in duty(0, 90 + 30 * i, 120 + 30 * i, 30, i)]

    def test_60_calls_best_and_never_many_times(self):
        told = [place(0, 0, 1)] + self.SEVEN + [best(), never()] * 26
        self.assertEqual(len(told), 60)
        given = each(*told)
        self.assertEqual(given[:8], [[0], [0], [1], [2], [3], [4], [5], [6]])
        self.assertEqual(given[8:], [self.APART, [0, 0]] * 26)

    def test_60_calls_with_all_homes_best_alone(self):
        ways = [way(i, 0, i) for i in range(1, 7)] + [way(0, i, i) for i in range(1, 7)]
        told = [rules(least=1000, long=1000, work=20)] + [place(i, 1, 1) for i in range(7)] + ways
        told = told + [work(0, 0, 100 * i, 100 * i + 10) for i in range(7)]
        told = told + [best()] * (60 - len(told))
        given = each(*told)
        self.assertEqual(len(given), 60)
        self.assertEqual(given[27][:3], [4000, 1, 105])
        self.assertEqual(given[27:], [given[27]] * 33)

    def test_60_calls_with_drops_and_pieces_between(self):
        told = [place(0, 0, 1)] + self.SEVEN
        for i in range(13):
            told = told + [best(), drop(i % 7), work(0, 0, 1000 + 100 * i, 1010 + 100 * i), never()]
        self.assertEqual(len(told), 60)
        given = each(*told)
        self.assertEqual(given[8], self.APART)
        self.assertEqual(given[9::4], [[0]] * 13)
        self.assertEqual(given[10::4], [[6]] * 13)
        self.assertEqual(given[11::4], [[0, 0]] * 13)
        self.assertEqual([answer[0] for answer in given[8::4]], [210] * 13)

    def test_60_checks_of_long_lists(self):
        told = [place(0, 0, 1)] + self.SEVEN + [check(*range(7)), check(*range(20))] * 26
        whole = checked(0, duty(0, 90, 300, 210, *range(7)), 70, 70)
        self.assertEqual(each(*told)[8:], [whole, [-2]] * 26)

    def test_the_list_handed_in_stays_as_it_was(self):
        calls = line(*DEPOT, *ASKED, *REFUSED, drop(4), best())
        before = list(calls)
        answers(calls)
        self.assertEqual(calls, before)
        self.assertTrue(all(type(number) is int for number in calls))

    def test_a_second_call_answers_as_the_first_one(self):
        calls = line(*DEPOT, *ASKED, *REFUSED, drop(4), best())
        first = answers(calls)
        first_kept = list(first)
        second = answers(calls)
        self.assertEqual(second, first_kept)
        # What is given back is not shared: a change of one is none of the next.
        first.clear()
        self.assertEqual(second, first_kept)
        self.assertEqual(answers(calls), first_kept)

    def test_whole_numbers_are_given_back(self):
        given = answers(line(*DEPOT, *ASKED, *REFUSED, drop(4), best()))
        self.assertIs(type(given), list)
        self.assertTrue(all(type(number) is int for number in given))

    def test_lists_like_calls_are_read_as_lists(self):
        self.assertEqual(answers([5, 3, 5, 1, 0, 6, 5, 0, 7]), [1, -2, 3, 0, 1, 1, 1, -2, 2, 0, 0])


if __name__ == "__main__":
    unittest.main()
