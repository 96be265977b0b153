import unittest

from lines import TOP, check, checked, duty, each, last, line, place, rules, way, work
from dutyrules.depot import answers
from dutyrules.duty import in_order

HOME = place(0, 0, 1)
SEVEN = [work(0, 0, 100 * i, 100 * i + 10 + i) for i in range(7)]


class RefusedTest(unittest.TestCase):
    def assert_refused(self, told, *lists):
        for pieces in lists:
            with self.subTest(pieces=pieces):
                self.assertEqual(last(HOME, *told, check(*pieces)), [-2])

    def test_no_piece_told(self):
        self.assert_refused([], [])
        self.assert_refused(SEVEN, [])

    def test_two_alike(self):
        self.assert_refused(SEVEN, [0, 0], [6, 6], [0, 1, 1], [0, 0, 1], [0, 1, 1, 2])

    def test_falling(self):
        self.assert_refused(SEVEN, [1, 0], [6, 0], [0, 2, 1], [1, 0, 2], [6, 5, 4, 3, 2, 1, 0], [1, 2, 0])

    def test_one_that_there_is_not(self):
        self.assert_refused([], [0], [1], [TOP])
        self.assert_refused(SEVEN, [7], [TOP], [0, 7], [0, TOP], [7, 8], [0, 1, 2, 3, 4, 5, 6, 7])
        self.assert_refused(SEVEN[:2], [2], [0, 2], [0, 1, 2], [1, TOP])

    def test_one_that_there_is_not_ahead_of_one_that_there_is(self):
        self.assert_refused(SEVEN, [7, 0], [TOP, 6], [0, TOP, 6])

    def test_lists_of_20(self):
        self.assert_refused(SEVEN, [0] * 20, [TOP] * 20, list(range(20)), list(range(19, -1, -1)),
                            list(range(7)) + [6] * 13)

    def test_the_calls_behind_a_list_of_20_are_read(self):
        told = line(HOME, SEVEN[0], [5, 20] + [5, 1, 0, 6, 7] * 4, check(0))
        self.assertEqual(answers(told)[4:], [1, -2, 10] + checked(0, duty(0, -10, 20, 30, 0), 10, 10))

    def test_a_refusal_goes_ahead_of_what_is_wrong(self):
        told = [work(0, 0, 1, 9), work(0, 0, 1, 9)]
        self.assertEqual(each(*told, check(0), check(0, 1), check(1, 0), check(0, 2))[2:], [[2], [1], [-2], [-2]])


class TakenTest(unittest.TestCase):
    def test_the_whole_answer(self):
        calls = [1, 3, 1, 1, 2, 3, 4, 25, 2, 4, 3, 30, 3, 4, 3, 480, 520, 3, 3, 4, 525, 600, 5, 2, 0, 1]
        self.assertEqual(answers(calls), [1, 0, 1, 0, 1, 1, 1, 0, 1, 1,
                                          11, 0, 6, 3, 445, 640, 195, 0, 1, 2, 115, 115])

    def test_each_one_alone(self):
        for i in range(7):
            with self.subTest(i=i):
                told = duty(0, 100 * i - 10, 100 * i + 20 + i, 30 + i, i)
                self.assertEqual(last(HOME, *SEVEN, check(i)), checked(0, told, 10 + i, 10 + i))

    def test_several(self):
        self.assertEqual(last(HOME, *SEVEN, check(1, 2)), checked(0, duty(0, 90, 222, 132, 1, 2), 23, 23))
        self.assertEqual(last(HOME, *SEVEN, check(0, 5)), checked(0, duty(0, -10, 525, 535, 0, 5), 25, 25))
        self.assertEqual(last(HOME, *SEVEN, check(2, 4, 6)), checked(0, duty(0, 190, 626, 436, 2, 4, 6), 42, 42))

    def test_all_seven(self):
        told = duty(0, -10, 626, 636, 0, 1, 2, 3, 4, 5, 6)
        self.assertEqual(last(rules(long=700), HOME, *SEVEN, check(*range(7))), checked(0, told, 91, 91))
        self.assertEqual(last(HOME, *SEVEN, check(*range(7))), checked(3, told, 91, 91))

    def test_pieces_told_in_another_order_than_that_of_their_minutes(self):
        three = [work(0, 0, 300, 303), work(0, 0, 100, 101), work(0, 0, 200, 202)]
        told = [HOME] + three
        self.assertEqual(last(*told, check(0, 1)), checked(0, duty(0, 90, 313, 223, 1, 0), 4, 4))
        self.assertEqual(last(*told, check(0, 1, 2)), checked(0, duty(0, 90, 313, 223, 1, 2, 0), 6, 6))
        self.assertEqual(last(*told, check(1, 2)), checked(0, duty(0, 90, 212, 122, 1, 2), 3, 3))

    def test_neighbours_are_those_in_order_of_minutes(self):
        # There's no way from 2 to 1: only in order of the minutes has each its gap.
        told = [HOME, way(0, 1, 1), way(2, 0, 1), way(1, 2, 3), work(2, 2, 300, 310), work(1, 1, 100, 110),
                work(1, 2, 200, 210)]
        self.assertEqual(last(*told, check(0, 1, 2)), checked(0, duty(0, 89, 321, 232, 1, 2, 0), 30, 30))

    def test_pieces_of_one_first_minute_have_no_gap(self):
        told = [rules(change=0), HOME, work(0, 0, 100, 101), work(0, 0, 100, 102), work(0, 0, 100, 103),
                work(0, 0, 200, 201)]
        for pieces in ([0, 1], [1, 2], [0, 1, 2], [0, 2, 3], [0, 1, 2, 3]):
            with self.subTest(pieces=pieces):
                self.assertEqual(last(*told, check(*pieces)), [1])
        self.assertEqual(last(*told, check(1, 3)), checked(0, duty(0, 90, 211, 121, 1, 3), 3, 3))

    def test_pieces_of_one_first_minute_stand_by_their_numbers(self):
        pieces = [(0, 0, 5, 9), (0, 0, 5, 6), (0, 0, 4, 9), (0, 0, 5, 7)]
        self.assertEqual(in_order(pieces, [0, 1, 2, 3]), [2, 0, 1, 3])
        self.assertEqual(in_order(pieces, [3, 1, 0]), [0, 1, 3])


class WrongTest(unittest.TestCase):
    """Each answer, and that of several that are so at once the first is told."""

    # Two pieces of 100 minutes each, with a gap of 100 between.
    TWO = [work(0, 0, 100, 200), work(0, 0, 300, 400)]
    TOLD = duty(0, 90, 410, 320, 0, 1)

    def wrong(self, *told, **bounds):
        return last(rules(**bounds), *told, check(0, 1))

    def test_nothing(self):
        self.assertEqual(self.wrong(HOME, *self.TWO), checked(0, self.TOLD, 200, 200))

    def test_each_alone(self):
        self.assertEqual(self.wrong(HOME, *self.TWO, change=101), [1])
        self.assertEqual(self.wrong(*self.TWO), [2])
        self.assertEqual(self.wrong(HOME, *self.TWO, long=319), checked(3, self.TOLD, 200, 200))
        self.assertEqual(self.wrong(HOME, *self.TWO, work=199), checked(4, self.TOLD, 200, 200))
        self.assertEqual(self.wrong(HOME, *self.TWO, drive=199), checked(5, self.TOLD, 200, 200))

    def test_1_goes_ahead_of_all(self):
        self.assertEqual(self.wrong(*self.TWO, change=101), [1])
        self.assertEqual(self.wrong(HOME, *self.TWO, change=101, long=0), [1])
        self.assertEqual(self.wrong(HOME, *self.TWO, change=101, work=0), [1])
        self.assertEqual(self.wrong(HOME, *self.TWO, change=101, drive=0), [1])
        self.assertEqual(self.wrong(*self.TWO, change=101, long=0, work=0, drive=0), [1])

    def test_2_goes_ahead_of_3_4_5(self):
        self.assertEqual(self.wrong(*self.TWO, long=0), [2])
        self.assertEqual(self.wrong(*self.TWO, work=0), [2])
        self.assertEqual(self.wrong(*self.TWO, drive=0), [2])
        self.assertEqual(self.wrong(*self.TWO, long=0, work=0, drive=0), [2])

    def test_3_goes_ahead_of_4_and_5(self):
        for bounds in ({"work": 0}, {"drive": 0}, {"work": 0, "drive": 0}):
            with self.subTest(bounds=bounds):
                self.assertEqual(self.wrong(HOME, *self.TWO, long=0, **bounds), checked(3, self.TOLD, 200, 200))

    def test_4_goes_ahead_of_5(self):
        self.assertEqual(self.wrong(HOME, *self.TWO, work=0, drive=0), checked(4, self.TOLD, 200, 200))

    def test_one_piece_alone(self):
        told = duty(0, 90, 210, 120, 0)
        piece = work(0, 0, 100, 200)
        self.assertEqual(last(piece, check(0)), [2])
        self.assertEqual(last(HOME, piece, check(0)), checked(0, told, 100, 100))
        self.assertEqual(last(rules(long=119), HOME, piece, check(0)), checked(3, told, 100, 100))
        self.assertEqual(last(rules(work=99), HOME, piece, check(0)), checked(4, told, 100, 100))
        self.assertEqual(last(rules(drive=99), HOME, piece, check(0)), checked(5, told, 100, 100))

    def test_a_gap_is_missing_at_the_end_or_at_the_beginning(self):
        told = [HOME, work(0, 0, 100, 110), work(0, 0, 200, 210), work(0, 0, 300, 310)]
        self.assertEqual(last(*told, work(0, 0, 312, 320), check(0, 1, 2, 3)), [1])
        self.assertEqual(last(*told, work(0, 0, 90, 98), check(0, 1, 2, 3)), [1])
        self.assertEqual(last(*told, work(0, 0, 205, 220), check(0, 1, 2, 3)), [1])
        self.assertEqual(last(*told, work(0, 0, 215, 220), check(0, 1, 2, 3))[0], 0)


class BoundsTest(unittest.TestCase):
    """At the bound nothing is wrong, one minute beyond it something is."""

    def test_long_with_both_ways_and_on_and_off(self):
        told = [place(3, 0, 1), way(3, 1, 7), way(2, 3, 8), work(1, 2, 100, 150)]
        expected = duty(3, 82, 178, 96, 0)
        self.assertEqual(last(rules(on=11, off=20, long=96), *told, check(0)), checked(0, expected, 50, 50))
        self.assertEqual(last(rules(on=11, off=20, long=95), *told, check(0)), checked(3, expected, 50, 50))

    def test_long_0_is_always_too_little(self):
        told = [rules(long=0, on=0, off=0), HOME, work(0, 0, 0, 1)]
        self.assertEqual(last(*told, check(0)), checked(3, duty(0, 0, 1, 1, 0), 1, 1))

    def test_work_of_several_pieces_without_the_gaps(self):
        told = [place(0, 1, 1), work(0, 0, 100, 111), work(0, 0, 200, 222), work(0, 0, 300, 333)]
        expected = duty(0, 90, 343, 253, 0, 1, 2)
        self.assertEqual(last(rules(work=66), *told, check(0, 1, 2)), checked(0, expected, 66, 33))
        self.assertEqual(last(rules(work=65), *told, check(0, 1, 2)), checked(4, expected, 66, 33))

    def test_drive_of_several_pieces_without_a_break(self):
        told = [HOME, work(0, 0, 100, 111), work(0, 0, 200, 222), work(0, 0, 300, 333)]
        expected = duty(0, 90, 343, 253, 0, 1, 2)
        self.assertEqual(last(rules(drive=66), *told, check(0, 1, 2)), checked(0, expected, 66, 66))
        self.assertEqual(last(rules(drive=65), *told, check(0, 1, 2)), checked(5, expected, 66, 66))

    def test_the_bounds_of_the_rules_at_the_beginning(self):
        self.assertEqual(last(place(0, 1, 1), work(0, 0, 100, 340), work(0, 0, 400, 640), check(0, 1)),
                         checked(0, duty(0, 90, 650, 560, 0, 1), 480, 240))
        self.assertEqual(last(place(0, 1, 1), work(0, 0, 100, 340), work(0, 0, 400, 641), check(0, 1))[0], 4)
        self.assertEqual(last(place(0, 1, 1), work(0, 0, 100, 341), work(0, 0, 400, 450), check(0, 1))[0], 5)
        self.assertEqual(last(HOME, work(0, 0, 100, 101), work(0, 0, 679, 680), check(0, 1)),
                         checked(0, duty(0, 90, 690, 600, 0, 1), 2, 2))
        self.assertEqual(last(HOME, work(0, 0, 100, 101), work(0, 0, 679, 681), check(0, 1))[0], 3)

    def test_a_gap_with_way_and_change(self):
        told = [HOME, way(0, 1, 1), way(3, 0, 1), way(2, 4, 20), work(1, 2, 100, 200)]
        for change, first in ((5, 225), (0, 220), (100, 320), (1, 221)):
            with self.subTest(change=change):
                expected = checked(0, duty(0, 89, first + 21, first - 68, 0, 1), 110, 110)
                calls = [rules(change=change)] + told
                self.assertEqual(last(*calls, work(4, 3, first, first + 10), check(0, 1)), expected)
                self.assertEqual(last(*calls, work(4, 3, first - 1, first + 10), check(0, 1)), [1])

    def test_a_gap_at_one_place_with_change(self):
        for change, first in ((5, 205), (0, 200), (100, 300)):
            with self.subTest(change=change):
                told = [rules(change=change), HOME, work(0, 0, 100, 200)]
                self.assertEqual(last(*told, work(0, 0, first, first + 10), check(0, 1))[0], 0)
                self.assertEqual(last(*told, work(0, 0, first - 1, first + 10), check(0, 1)), [1])

    def test_the_first_minute_and_the_last_one(self):
        told = [rules(long=100000, work=100000, drive=100000, on=0, off=0), HOME, work(0, 0, 0, 100000)]
        self.assertEqual(last(*told, check(0)), checked(0, duty(0, 0, 100000, 100000, 0), 100000, 100000))


class PayTest(unittest.TestCase):
    """A duty of 120 minutes."""

    def pay(self, **told):
        given = last(rules(**told), HOME, work(0, 0, 100, 200), check(0))
        self.assertEqual(given, checked(0, duty(0, 90, 210, given[5], 0), 100, 100))
        return given[5]

    def test_as_many_as_its_minutes(self):
        self.assertEqual(self.pay(), 120)

    def test_those_beyond_twice_once_more(self):
        self.assertEqual(self.pay(twice=121), 120)
        self.assertEqual(self.pay(twice=120), 120)
        self.assertEqual(self.pay(twice=119), 121)
        self.assertEqual(self.pay(twice=60), 180)
        self.assertEqual(self.pay(twice=1), 239)
        self.assertEqual(self.pay(twice=0), 240)

    def test_least_if_that_is_more(self):
        self.assertEqual(self.pay(least=119), 120)
        self.assertEqual(self.pay(least=120), 120)
        self.assertEqual(self.pay(least=121), 121)
        self.assertEqual(self.pay(least=100000), 100000)

    def test_least_against_what_is_paid_twice(self):
        self.assertEqual(self.pay(least=139, twice=100), 140)
        self.assertEqual(self.pay(least=140, twice=100), 140)
        self.assertEqual(self.pay(least=141, twice=100), 141)

    def test_ways_and_on_and_off_are_paid(self):
        told = [place(3, 0, 1), way(3, 1, 7), way(2, 3, 8), work(1, 2, 100, 150)]
        self.assertEqual(last(rules(on=1, off=2, twice=60), *told, check(0)),
                         checked(0, duty(3, 92, 160, 76, 0), 50, 50))

    def test_a_duty_that_is_wrong_has_its_pay_too(self):
        told = [HOME, work(0, 0, 100, 200), check(0)]
        self.assertEqual(last(rules(long=0, twice=100), *told), checked(3, duty(0, 90, 210, 140, 0), 100, 100))
        self.assertEqual(last(rules(work=0, least=500), *told), checked(4, duty(0, 90, 210, 500, 0), 100, 100))
        self.assertEqual(last(rules(drive=0, twice=0), *told), checked(5, duty(0, 90, 210, 240, 0), 100, 100))


if __name__ == "__main__":
    unittest.main()
