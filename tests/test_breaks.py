import unittest

from lines import check, each, last, place, rules, way, work

# From place 1, where the first piece ends, it takes 20 minutes to place 2, where the second begins.
AROUND = [place(0, 0, 1), way(0, 3, 1), way(4, 0, 1), way(1, 2, 20)]
FIRST = work(3, 1, 100, 200)
DRIVE_ALL = rules(drive=100000, long=100000, work=100000)


def second(first_minute):
    return work(2, 4, first_minute, first_minute + 50)


def unbroken(*calls):
    """The most that's together without a break, by the check that is the last of these calls."""
    return last(*calls)[-1]


class BreakTest(unittest.TestCase):
    def assert_break(self, *told):
        self.assertEqual(unbroken(*told, check(0, 1)), 100)

    def assert_no_break(self, *told):
        self.assertEqual(unbroken(*told, check(0, 1)), 150)

    def test_at_the_end_of_the_first_one(self):
        self.assert_break(*AROUND, place(1, 1), FIRST, second(250))

    def test_at_the_beginning_of_the_second_one(self):
        self.assert_break(*AROUND, place(2, 1), FIRST, second(250))

    def test_at_both(self):
        self.assert_break(*AROUND, place(1, 1), place(2, 1), FIRST, second(250))

    def test_at_neither(self):
        self.assert_no_break(*AROUND, FIRST, second(250))
        # Nor where the first one begins, the second one ends, or elsewhere.
        elsewhere = [place(0, 1, 1), place(3, 1), place(4, 1), place(5, 1), place(19, 1)]
        self.assert_no_break(*AROUND, *elsewhere, FIRST, second(250))

    def test_a_home_is_no_place_for_a_break(self):
        self.assert_no_break(*AROUND, place(1, 0, 1), place(2, 0, 1), FIRST, second(250))

    def test_a_place_taken_back(self):
        self.assert_no_break(*AROUND, place(1, 1), place(1, 0), FIRST, second(250))
        self.assert_no_break(*AROUND, place(2, 1), FIRST, second(250), place(2, 0))
        self.assert_break(*AROUND, place(1, 1), place(2, 1), place(1, 0), FIRST, second(250))
        self.assert_break(*AROUND, place(1, 1), place(1, 0), place(1, 1), FIRST, second(250))

    def test_a_place_told_behind_the_pieces(self):
        given = each(*AROUND, FIRST, second(250), check(0, 1), place(1, 1), check(0, 1), place(1, 0), check(0, 1))
        self.assertEqual([given[at][-1] for at in (6, 8, 10)], [150, 100, 150])

    def test_rest_and_one_minute_less(self):
        for rest, first_minute in ((30, 250), (29, 249), (31, 251), (5, 225), (6, 226), (100, 320)):
            with self.subTest(rest=rest):
                told = [rules(rest=rest), *AROUND, place(1, 1), FIRST]
                self.assert_break(*told, second(first_minute))
                self.assert_break(*told, second(first_minute + 1))
        for rest, first_minute in ((30, 249), (29, 248), (31, 250), (6, 225), (100, 319)):
            with self.subTest(rest=rest):
                self.assert_no_break(rules(rest=rest), *AROUND, place(1, 1), FIRST, second(first_minute))

    def test_change_is_not_taken_off(self):
        for change in (0, 29, 30):
            with self.subTest(change=change):
                self.assert_break(rules(change=change), *AROUND, place(2, 1), FIRST, second(250))
        self.assertEqual(last(rules(change=31), *AROUND, place(2, 1), FIRST, second(250), check(0, 1)), [1])

    def test_the_way_is_taken_off(self):
        self.assert_no_break(rules(change=0), *AROUND, place(1, 1), FIRST, second(249))
        self.assert_break(rules(change=0), *AROUND, place(1, 1), way(1, 2, 19), FIRST, second(249))

    def test_rest_0(self):
        told = [rules(rest=0, change=0), *AROUND]
        self.assert_break(*told, place(1, 1), FIRST, second(220))
        self.assert_no_break(*told, FIRST, second(220))

    def test_both_at_one_place(self):
        for first_minute, most in ((230, 100), (229, 150)):
            pieces = [work(0, 0, 100, 200), work(0, 0, first_minute, first_minute + 50)]
            self.assertEqual(unbroken(place(0, 1, 1), *pieces, check(0, 1)), most)
            self.assertEqual(unbroken(place(0, 0, 1), *pieces, check(0, 1)), 150)

    def test_on_and_off_and_the_ways_home_are_no_breaks(self):
        told = [rules(on=100, off=100), place(0, 1, 1), way(0, 1, 60), way(1, 0, 60), work(1, 1, 1000, 1100)]
        self.assertEqual(last(*told, check(0))[-2:], [100, 100])


class StretchTest(unittest.TestCase):
    """Pieces behind one another at one place, a break where the gap is 30 or more."""

    def duty(self, *pieces, **bounds):
        """The calls for a duty of pieces that are told as (gap ahead of it, length)."""
        calls = [rules(long=100000, work=100000, **bounds), place(0, 1, 1)]
        at = 100
        for gap, length in pieces:
            calls.append(work(0, 0, at + gap, at + gap + length))
            at = at + gap + length
        return calls + [check(*range(len(pieces)))]

    def assert_most(self, most, *pieces):
        worked = sum(length for gap, length in pieces)
        self.assertEqual(last(*self.duty(*pieces, drive=most))[-2:], [worked, most])
        self.assertEqual(last(*self.duty(*pieces, drive=most))[0], 0)
        self.assertEqual(last(*self.duty(*pieces, drive=most - 1))[0], 5)

    def test_one_piece_alone(self):
        self.assert_most(77, (0, 77))

    def test_the_first_stretch(self):
        self.assert_most(90, (0, 40), (10, 50), (30, 30), (10, 40), (30, 60), (10, 20))

    def test_a_middle_stretch(self):
        self.assert_most(90, (0, 10), (10, 50), (30, 40), (10, 50), (30, 60), (10, 20))
        self.assert_most(90, (0, 10), (30, 90), (30, 40))

    def test_the_last_stretch(self):
        self.assert_most(90, (0, 40), (10, 20), (30, 30), (10, 40), (30, 70), (10, 20))

    def test_without_any_break(self):
        self.assert_most(210, (0, 10), (10, 20), (29, 30), (5, 40), (10, 50), (29, 60))

    def test_a_break_in_every_gap(self):
        self.assert_most(60, (0, 10), (30, 20), (40, 60), (30, 40), (31, 50))

    def test_a_break_behind_the_first_or_ahead_of_the_last(self):
        self.assert_most(50, (0, 30), (30, 20), (5, 30))
        self.assert_most(50, (0, 30), (5, 20), (30, 30))
        self.assert_most(51, (0, 51), (30, 20), (5, 30))
        self.assert_most(51, (0, 30), (5, 20), (30, 51))

    def test_alike_stretches(self):
        self.assert_most(50, (0, 50), (30, 20), (5, 30), (30, 50))

    def test_seven_pieces(self):
        self.assert_most(60, (0, 10), (5, 20), (30, 30), (5, 5), (5, 25), (30, 40), (5, 19))

    def test_the_gap_within_a_stretch_is_not_driven(self):
        self.assert_most(20, (0, 10), (29, 10), (30, 1))

    def test_only_where_one_can_have_a_break(self):
        told = [rules(long=100000, work=100000), place(0, 0, 1), place(1, 1), way(0, 1, 1), way(1, 0, 1),
                work(0, 0, 100, 110), work(0, 0, 200, 220), work(1, 0, 300, 340), work(0, 0, 400, 480)]
        # Of the three long gaps only that ahead of the third piece is at a place for a break.
        self.assertEqual(last(*told, check(0, 1, 2, 3))[-2:], [150, 120])
        self.assertEqual(last(*told, check(0, 1, 3))[-2:], [110, 110])


if __name__ == "__main__":
    unittest.main()
