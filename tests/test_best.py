import unittest

from dutyrules.depot import answers
from lines import best, check, duty, each, last, never, numbers, place, rules, way, work

HOME = place(0, 0, 1)


def at_home(first_minute, last_minute):
    return work(0, 0, first_minute, last_minute)


def pieces(*minutes):
    """Pieces of 10 minutes each that begin at these minutes."""
    return [at_home(minute, minute + 10) for minute in minutes]


def sets(answer):
    """Which pieces are together in the duties of best's answer, in the order in which they are told."""
    together = []
    at = 3
    while at < len(answer):
        together.append(answer[at + 5:at + 1 + answer[at]])
        at = at + 1 + answer[at]
    return together


class BestTest(unittest.TestCase):
    def assert_best(self, told, pay, alike, *together):
        """The pay, how many ways are paid that, and which pieces are together in the earliest."""
        answer = last(*told, best())
        self.assertEqual(answer[:3], [pay, 1, alike])
        self.assertEqual(sets(answer), [list(group) for group in together])


class FormTest(BestTest):
    def test_the_whole_answer(self):
        self.assertEqual(answers([1, 0, 0, 1, 3, 0, 0, 100, 150, 3, 0, 0, 200, 210, 6]),
                         [1, 0, 1, 0, 1, 1, 15, 100, 1, 1, 5, 0, 90, 160, 70, 0, 5, 0, 190, 220, 30, 1])

    def test_without_pieces(self):
        self.assertEqual(answers(best()), [3, 0, 1, 1])
        self.assertEqual(last(HOME, rules(least=100, long=0), best()), [0, 1, 1])

    def test_one_piece(self):
        self.assertEqual(last(HOME, at_home(100, 150), best()), [70, 1, 1] + duty(0, 90, 160, 70, 0))

    def test_seven_pieces(self):
        told = [HOME] + [at_home(100 * i, 100 * i + 10 + i) for i in range(7)]
        expected = [7 * 30 + 21, 1, 1]
        for i in range(7):
            expected = expected + duty(0, 100 * i - 10, 100 * i + 20 + i, 30 + i, i)
        self.assertEqual(last(*told, best()), expected)

    def test_seven_pieces_in_one_duty(self):
        told = [rules(least=1000, long=1000), HOME] + pieces(700, 100, 600, 200, 500, 300, 400)
        self.assertEqual(last(*told, best()), [1000, 1, 1] + duty(0, 90, 720, 1000, 1, 3, 5, 6, 4, 2, 0))

    def test_how_the_numbers_of_each_duty_stand(self):
        told = [rules(least=100, on=1, off=2, twice=110), place(3, 0, 1), place(4, 0, 1), way(3, 1, 10),
                way(2, 3, 20), way(4, 6, 30), way(6, 4, 40), work(2, 2, 200, 210), work(6, 6, 100, 120),
                work(1, 2, 100, 150)]
        # Pieces 2 and 0 go from home 3 and back: from 89 to 232; piece 1 from home 4 and back: from 69 to 162.
        self.assertEqual(last(*told, best()), [143 + 33 + 100, 1, 1] + duty(3, 89, 232, 176, 2, 0)
                         + duty(4, 69, 162, 100, 1))

    def test_duties_are_told_as_check_tells_them(self):
        told = [rules(least=60), HOME] + pieces(400, 0, 30, 500, 430)
        given = each(*told, best(), check(0, 4), check(1, 2), check(3))
        told_by_check = []
        for answer in given[8:]:
            self.assertEqual(answer[0], 0)
            told_by_check = told_by_check + answer[1:2 + answer[1]]
        self.assertEqual(given[7], [180, 1, 1] + told_by_check)


class NoWayTest(BestTest):
    def assert_no_way(self, *told):
        self.assertEqual(last(*told, best()), [-6])

    def test_without_a_home(self):
        self.assert_no_way(at_home(100, 150))

    def test_the_whole_refusal(self):
        self.assertEqual(answers(at_home(100, 150) + best()), [1, 0, 1, -6])

    def test_one_piece_fits_nowhere(self):
        for at in range(4):
            told = pieces(100, 200, 300)
            told.insert(at, work(1, 1, 400, 410))
            self.assert_no_way(HOME, *told)

    def test_each_wrong_alone(self):
        self.assert_no_way(rules(long=119), HOME, at_home(100, 200))
        self.assert_no_way(rules(work=99), HOME, at_home(100, 200))
        self.assert_no_way(rules(drive=99), HOME, at_home(100, 200))
        self.assertEqual(last(rules(long=120, work=100, drive=100), HOME, at_home(100, 200), best())[0], 120)

    def test_each_piece_is_in_a_right_duty_but_not_all_in_one_way(self):
        # From home only to 1, back only from 3: the last piece is to be with each of the two others.
        told = [HOME, way(0, 1, 5), way(3, 0, 5), work(1, 2, 100, 110), work(1, 2, 120, 130), work(2, 3, 200, 210)]
        given = each(*told, check(0, 2), check(1, 2), check(0, 1, 2), best(), never())
        self.assertEqual([answer[0] for answer in given[6:]], [0, 0, 1, -6, 0])

    def test_a_piece_that_is_right_in_company_alone(self):
        told = [HOME, way(0, 1, 5), way(2, 0, 5), work(1, 3, 100, 110), work(3, 2, 200, 210)]
        self.assertEqual(each(*told, check(0), check(1))[5:], [[2], [2]])
        self.assert_best(told, 140, 1, [0, 1])

    def test_what_was_in_the_way_is_dropped(self):
        told = [HOME, at_home(100, 110), work(1, 1, 200, 210), at_home(300, 310)]
        self.assertEqual(last(*told, best()), [-6])
        self.assert_best(told + [[4, 1]], 60, 1, [0], [1])

    def test_it_changes_nothing(self):
        told = [HOME, at_home(100, 110), work(1, 1, 200, 210)]
        self.assertEqual(each(*told, best(), check(0), best(), check(0))[4], last(*told, check(0)))


class LeastPaidTest(BestTest):
    """A duty's on and off are 20 minutes together: two pieces in one duty save 20 and cost the gap."""

    def test_together_is_less(self):
        self.assert_best([HOME] + pieces(100, 129), 59, 1, [0, 1])
        self.assert_best([HOME] + pieces(100, 115, 130), 60, 1, [0, 1, 2])

    def test_more_duties_are_less(self):
        self.assert_best([HOME] + pieces(100, 131), 60, 1, [0], [1])
        self.assert_best([HOME] + pieces(100, 131, 162), 90, 1, [0], [1], [2])

    def test_some_together(self):
        self.assert_best([HOME] + pieces(100, 120, 200, 220), 100, 1, [0, 1], [2, 3])
        self.assert_best([HOME] + pieces(220, 100, 200, 120), 100, 1, [2, 0], [1, 3])

    def test_what_is_wrong_is_left_out(self):
        # All three together would be less.
        self.assert_best([rules(drive=20), HOME] + pieces(100, 115, 130), 75, 2, [0], [1, 2])
        self.assert_best([rules(work=20), HOME] + pieces(100, 115, 130), 75, 2, [0], [1, 2])
        self.assert_best([rules(long=45), HOME] + pieces(100, 115, 130), 75, 2, [0], [1, 2])
        self.assert_best([rules(change=7), HOME] + pieces(100, 115, 131), 90, 1, [0], [1], [2])

    def test_least(self):
        self.assert_best([rules(least=100), HOME] + pieces(100, 131, 162), 100, 1, [0, 1, 2])
        self.assert_best([rules(least=45), HOME] + pieces(100, 131), 61, 1, [0, 1])
        self.assert_best([rules(least=30), HOME] + pieces(100, 131), 60, 1, [0], [1])

    def test_twice(self):
        # Together 50 minutes, of these those beyond 40 twice.
        self.assert_best([rules(twice=50), HOME] + pieces(100, 120), 50, 1, [0, 1])
        self.assert_best([rules(twice=41), HOME] + pieces(100, 120), 59, 1, [0, 1])
        self.assert_best([rules(twice=40), HOME] + pieces(100, 120), 60, 2, [0], [1])
        self.assert_best([rules(twice=39), HOME] + pieces(100, 120), 60, 1, [0], [1])


class AlikeTest(BestTest):
    """Ways that are paid alike: how many there are, and which one is the earliest."""

    def test_two(self):
        self.assert_best([HOME] + pieces(100, 130), 60, 2, [0], [1])
        self.assert_best([HOME] + pieces(130, 100), 60, 2, [0], [1])

    def test_three_pieces(self):
        self.assert_best([HOME] + pieces(100, 130, 160), 90, 4, [0], [1], [2])

    def test_seven_pieces(self):
        self.assert_best([HOME] + pieces(100, 130, 160, 190, 220, 250, 280), 210, 64, [0], [1], [2], [3], [4], [5], [6])

    def test_numbers_are_not_in_order_of_minutes(self):
        self.assert_best([HOME] + pieces(160, 100, 130), 90, 4, [0], [1], [2])
        # Here the fewest duties are the least, and two pieces the most of one.
        self.assert_best([rules(least=1000, work=20), HOME] + pieces(300, 200, 100), 2000, 3, [0], [2, 1])

    def test_the_lesser_set_of_the_first_duty(self):
        # 0 and 1 overlap, 2 and 3 overlap: in two duties {0, 2} and {1, 3}, or {0, 3} and {1, 2}.
        told = [rules(least=1000), HOME] + pieces(100, 101, 200, 201)
        self.assert_best(told, 2000, 2, [0, 2], [1, 3])
        told = [rules(least=1000), HOME] + pieces(200, 101, 100, 201)
        self.assert_best(told, 2000, 2, [1, 0], [2, 3])

    def test_a_set_of_more_pieces_may_be_the_lesser(self):
        # 3 overlaps 1 and 2: {0, 1, 2} counts 7, {0, 3} counts 9.
        told = [rules(least=1000), HOME] + [at_home(100, 110), at_home(200, 210), at_home(300, 310), at_home(200, 310)]
        self.assert_best(told, 2000, 2, [0, 1, 2], [3])

    def test_the_highest_piece_counts_most(self):
        # 2 overlaps 1 and 3: {0, 2} counts 5, {0, 1, 3} counts 11.
        told = [rules(least=1000), HOME] + [at_home(100, 110), at_home(200, 210), at_home(200, 310), at_home(300, 310)]
        self.assert_best(told, 2000, 2, [0, 2], [1, 3])

    def test_the_first_duty_in_which_they_differ_is_the_second(self):
        # 0 overlaps all the others.
        told = [rules(least=1000), HOME, at_home(100, 300)] + pieces(100, 101, 200, 201)
        self.assert_best(told, 3000, 2, [0], [1, 3], [2, 4])

    def test_the_first_duty_in_which_they_differ_is_the_third(self):
        told = [rules(least=1000), HOME, at_home(100, 300), at_home(100, 300)] + pieces(100, 101, 102, 200, 201)
        # Of 2, 3, 4 two are with 5 and 6, one is alone: {2} alone counts least, then {3, 5} less than {3, 6}.
        self.assert_best(told, 5000, 6, [0], [1], [2], [3, 5], [4, 6])

    def test_all_in_pairs(self):
        told = [rules(least=1000, long=1000, work=20), HOME] + pieces(100, 200, 300, 400, 500, 600, 700)
        self.assert_best(told, 4000, 105, [0], [1, 2], [3, 4], [5, 6])

    def test_all_in_threes_or_less(self):
        told = [rules(least=1000, long=1000, work=30), HOME] + pieces(100, 200, 300, 400, 500, 600, 700)
        self.assert_best(told, 3000, 175, [0], [1, 2, 3], [4, 5, 6])

    def test_ways_of_unlike_duties_that_are_paid_alike(self):
        # {0} and {1, 2}: 30 and 60; {0, 1} and {2}: 60 and 30; apart 90, too; {0, 2} is more.
        self.assertEqual(last(HOME, *pieces(100, 130, 160), best()),
                         [90, 1, 4] + duty(0, 90, 120, 30, 0) + duty(0, 120, 150, 30, 1) + duty(0, 150, 180, 30, 2))

    def test_pieces_that_are_alike_are_told_apart(self):
        told = [rules(least=1000), HOME] + pieces(100, 100, 200, 200)
        self.assert_best(told, 2000, 2, [0, 2], [1, 3])

    def test_homes_that_are_alike_make_no_two_ways(self):
        ways = [way(0, 3, 5), way(3, 0, 5), way(1, 3, 5), way(3, 1, 5), way(1, 3, 5)]
        told = [place(1, 0, 1), HOME] + ways + [work(3, 3, 100, 110)]
        self.assertEqual(last(*told, best()), [40, 1, 1] + duty(1, 85, 125, 40, 0))


class NeverTest(unittest.TestCase):
    def test_without_pieces(self):
        self.assertEqual(answers(never()), [2, 0, 0])
        self.assertEqual(last(HOME, never()), [0, 0])

    def test_the_whole_answer(self):
        self.assertEqual(answers([1, 0, 0, 1, 3, 1, 1, 100, 150, 3, 0, 0, 200, 210, 3, 1, 1, 1, 2, 7]),
                         [1, 0, 1, 0, 1, 1, 1, 2, 4, 2, 2, 0, 2])

    def test_none_of_some(self):
        self.assertEqual(last(HOME, *pieces(100, 200), never()), [0, 0])
        self.assertEqual(last(HOME, *pieces(*range(100, 800, 100)), never()), [0, 0])

    def test_all(self):
        self.assertEqual(last(*pieces(100), never()), [1, 1, 0])
        self.assertEqual(last(*pieces(*range(100, 800, 100)), never()), [7, 7, 0, 1, 2, 3, 4, 5, 6])

    def test_some_rising(self):
        told = [HOME, work(1, 1, 900, 901), at_home(1, 2), work(2, 2, 700, 701), work(3, 3, 5, 6), at_home(7, 8),
                at_home(9, 10), work(1, 1, 3, 4)]
        self.assertEqual(last(*told, never()), [4, 4, 0, 2, 3, 6])

    def test_each_wrong(self):
        self.assertEqual(last(rules(long=29), HOME, at_home(1, 10), at_home(1, 11), never()), [1, 1, 1])
        self.assertEqual(last(rules(work=9), HOME, at_home(1, 10), at_home(1, 11), never()), [1, 1, 1])
        self.assertEqual(last(rules(drive=9), HOME, at_home(1, 10), at_home(1, 11), never()), [1, 1, 1])

    def test_one_that_is_right_in_company_alone_is_not_told(self):
        told = [HOME, way(0, 1, 5), way(2, 0, 5), work(1, 3, 100, 110), work(3, 2, 200, 210), work(1, 3, 300, 310)]
        self.assertEqual(last(*told, never()), [1, 1, 2])
        self.assertEqual(last(*told[:-1], never()), [0, 0])

    def test_one_that_is_right_in_the_midst_alone_is_not_told(self):
        told = [HOME, way(0, 1, 5), way(4, 0, 5), work(2, 3, 200, 210), work(3, 4, 300, 310), work(1, 2, 100, 110)]
        self.assertEqual(each(*told, check(0), check(1), check(2), check(0, 1), check(0, 2), check(1, 2))[6:],
                         [[2], [2], [2], [2], [2], [1]])
        self.assertEqual(last(*told, never()), [0, 0])

    def test_behind_a_place_that_is_told(self):
        told = [work(0, 0, 1, 2), work(1, 1, 5, 6)]
        given = each(*told, never(), place(1, 0, 1), never(), HOME, never(), place(1, 0, 0), never())
        self.assertEqual(given[2::2], [[2, 2, 0, 1], [1, 1, 0], [0, 0], [1, 1, 1]])

    def test_it_is_no_refusal_where_there_is_no_way(self):
        self.assertEqual(numbers(*pieces(100), best()), [0, -6])
        self.assertEqual(last(*pieces(100), best(), never()), [1, 1, 0])


if __name__ == "__main__":
    unittest.main()
