import unittest

from lines import begins, check, checked, duty, each, last, place, rules, way, work

HOME = place(0, 0, 1)


def home_told(*calls):
    """The home that the last one of these calls, a check, tells."""
    return last(*calls)[2]


class WaysBetweenTest(unittest.TestCase):
    """How long it takes from the end of the first piece, at 1, to the beginning of the second one, at 2."""

    PIECES = [work(0, 1, 100, 200), work(2, 0, 300, 400)]

    def assert_minutes(self, minutes, *ways):
        """That it takes so many: with change the gap is just in time, and with one minute more too late."""
        just = rules(change=100 - minutes)
        self.assertEqual(last(just, HOME, *ways, *self.PIECES, check(0, 1)),
                         checked(0, duty(0, 90, 410, 320, 0, 1), 200, 200))
        late = rules(change=101 - minutes)
        self.assertEqual(last(late, HOME, *ways, *self.PIECES, check(0, 1)), [1])

    def assert_none(self, *ways):
        self.assertEqual(last(rules(change=0), HOME, *ways, *self.PIECES, check(0, 1)), [1])

    def test_one(self):
        self.assert_minutes(40, way(1, 2, 40))
        self.assert_minutes(0, way(1, 2, 0))
        self.assert_minutes(100, way(1, 2, 100))

    def test_of_several_the_least_counts(self):
        self.assert_minutes(30, way(1, 2, 30), way(1, 2, 40), way(1, 2, 50))
        self.assert_minutes(30, way(1, 2, 40), way(1, 2, 30), way(1, 2, 50))
        self.assert_minutes(30, way(1, 2, 50), way(1, 2, 40), way(1, 2, 30))
        self.assert_minutes(30, way(1, 2, 30), way(1, 2, 30))
        self.assert_minutes(0, way(1, 2, 100000), way(1, 2, 0))

    def test_one_told_behind_the_pieces(self):
        given = each(HOME, *self.PIECES, way(1, 2, 96), check(0, 1), way(1, 2, 95), check(0, 1))
        self.assertEqual([given[4], given[6][0]], [[1], 0])

    def test_none(self):
        self.assert_none()
        self.assert_none(way(0, 1, 1), way(0, 2, 1), way(1, 0, 1), way(2, 0, 1))

    def test_back_but_not_there(self):
        self.assert_none(way(2, 1, 0))
        self.assert_minutes(40, way(2, 1, 0), way(1, 2, 40), way(2, 1, 1))

    def test_no_two_ways_are_put_together(self):
        self.assert_none(way(1, 3, 1), way(3, 2, 1))
        self.assert_minutes(40, way(1, 3, 1), way(3, 2, 1), way(1, 2, 40))

    def test_from_a_place_to_itself(self):
        pieces = [work(0, 1, 100, 200), work(1, 0, 205, 300)]
        self.assertEqual(last(HOME, *pieces, check(0, 1))[0], 0)
        self.assertEqual(last(HOME, way(1, 0, 50), way(0, 1, 50), *pieces, check(0, 1))[0], 0)

    def test_a_way_that_was_refused_is_none(self):
        self.assert_none(way(1, 2, 100001))
        self.assertEqual(last(HOME, *[way(3, 4, 1)] * 40, way(1, 2, 1), *self.PIECES, check(0, 1)), [1])

    def test_the_40th_way_counts(self):
        self.assertEqual(last(HOME, *[way(3, 4, 1)] * 39, way(1, 2, 1), *self.PIECES, check(0, 1))[0], 0)

    def test_places_are_not_mixed_up(self):
        # 1 to 12 and 11 to 2, 19 to 0 and 0 to 19.
        told = [HOME, way(1, 12, 7), way(0, 19, 3), work(0, 1, 100, 110), work(12, 0, 200, 210),
                work(0, 11, 300, 310), work(2, 0, 400, 410), work(19, 0, 500, 510)]
        given = each(*told, check(0, 1), check(2, 3), check(0, 1, 4), check(4))
        self.assertEqual([given[8][0], given[9], given[10][0], given[11][0]], [0, [1], 0, 0])


class HomeTest(unittest.TestCase):
    """The piece goes from place 1 to place 2; homes are 5, 6, 7."""

    PIECE = work(1, 2, 100, 200)

    def test_none(self):
        self.assertEqual(last(self.PIECE, check(0)), [2])
        self.assertEqual(last(way(5, 1, 1), way(2, 5, 1), self.PIECE, check(0)), [2])
        self.assertEqual(last(place(5, 1, 0), way(5, 1, 1), way(2, 5, 1), self.PIECE, check(0)), [2])

    def test_one_without_ways(self):
        self.assertEqual(last(place(5, 0, 1), self.PIECE, check(0)), [2])

    def test_there_but_not_back(self):
        self.assertEqual(last(place(5, 0, 1), way(5, 1, 1), self.PIECE, check(0)), [2])
        self.assertEqual(last(place(5, 0, 1), way(5, 1, 1), way(1, 5, 1), way(5, 2, 1), self.PIECE, check(0)), [2])

    def test_back_but_not_there(self):
        self.assertEqual(last(place(5, 0, 1), way(2, 5, 1), self.PIECE, check(0)), [2])

    def test_where_it_begins_or_ends(self):
        self.assertEqual(last(place(1, 0, 1), self.PIECE, check(0)), [2])
        self.assertEqual(last(place(2, 0, 1), self.PIECE, check(0)), [2])
        self.assertEqual(last(place(1, 0, 1), way(2, 1, 9), self.PIECE, check(0)),
                         checked(0, duty(1, 90, 219, 129, 0), 100, 100))
        self.assertEqual(last(place(2, 0, 1), way(2, 1, 9), self.PIECE, check(0)),
                         checked(0, duty(2, 81, 210, 129, 0), 100, 100))

    def test_no_two_ways_are_put_together(self):
        self.assertEqual(last(place(5, 0, 1), way(5, 3, 1), way(3, 1, 1), way(2, 5, 1), self.PIECE, check(0)), [2])

    def test_beginning_and_end(self):
        told = [rules(on=3, off=4), place(5, 0, 1), way(5, 1, 20), way(2, 5, 30), self.PIECE, check(0)]
        self.assertEqual(last(*told), checked(0, duty(5, 77, 234, 157, 0), 100, 100))

    def test_of_several_ways_the_least_counts(self):
        told = [place(5, 0, 1), way(5, 1, 20), way(5, 1, 10), way(2, 5, 30), way(2, 5, 40), self.PIECE, check(0)]
        self.assertEqual(last(*told), checked(0, duty(5, 80, 240, 160, 0), 100, 100))

    def test_first_and_last_piece_count(self):
        told = [place(5, 0, 1), way(5, 1, 20), way(4, 5, 30), work(3, 4, 300, 310), self.PIECE, way(2, 3, 1)]
        self.assertEqual(last(*told, check(0, 1)), checked(0, duty(5, 70, 350, 280, 1, 0), 110, 110))
        self.assertEqual([last(*told, check(0)), last(*told, check(1))], [[2], [2]])

    def test_the_least_of_both_together(self):
        # 5 has the shorter way there, 6 the shorter way back, 7 the least together.
        ways = [way(5, 1, 1), way(2, 5, 40), way(6, 1, 40), way(2, 6, 1), way(7, 1, 20), way(2, 7, 20)]
        homes = [place(5, 0, 1), place(6, 0, 1), place(7, 0, 1)]
        self.assertEqual(last(*homes, *ways, self.PIECE, check(0)),
                         checked(0, duty(7, 70, 230, 160, 0), 100, 100))

    def test_one_that_one_can_not_come_back_to_is_passed_over(self):
        ways = [way(5, 1, 0), way(2, 6, 0), way(7, 1, 90), way(2, 7, 90)]
        homes = [place(5, 0, 1), place(6, 0, 1), place(7, 0, 1)]
        self.assertEqual(home_told(*homes, *ways, self.PIECE, check(0)), 7)

    def test_a_beginning_below_0_and_an_end_beyond_100000(self):
        told = [rules(on=100000, off=100000, long=100000), place(5, 0, 1), way(5, 1, 100000), way(2, 5, 100000)]
        # 500000 minutes, and those beyond 100000 once more.
        self.assertEqual(last(*told, work(1, 2, 0, 100000), check(0)),
                         checked(3, duty(5, -200000, 300000, 900000, 0), 100000, 100000))
        self.assertEqual(last(place(5, 0, 1), way(5, 1, 1), way(2, 5, 1), work(1, 2, 10, 20), check(0)),
                         checked(0, duty(5, -1, 31, 32, 0), 10, 10))
        self.assertEqual(last(place(5, 0, 1), way(5, 1, 1), way(2, 5, 1), work(1, 2, 99990, 100000), check(0)),
                         checked(0, duty(5, 99979, 100011, 32, 0), 10, 10))


class SeveralHomesTest(unittest.TestCase):
    """Homes 5, 6 and 7 are alike for the piece, but 7 is one minute nearer where a test says so."""

    ALIKE = [way(5, 1, 10), way(2, 5, 20), way(6, 1, 20), way(2, 6, 10), way(7, 1, 15), way(2, 7, 15),
             work(1, 2, 100, 200)]

    def assert_home(self, home, *homes):
        self.assertEqual(home_told(*homes, *self.ALIKE, check(0)), home)
        # Where they are told behind the rest it is the same.
        self.assertEqual(home_told(*self.ALIKE, *homes, check(0)), home)

    def test_the_one_told_first(self):
        self.assert_home(5, place(5, 0, 1), place(6, 0, 1), place(7, 0, 1))
        self.assert_home(6, place(6, 0, 1), place(5, 0, 1), place(7, 0, 1))
        self.assert_home(7, place(7, 0, 1), place(6, 0, 1), place(5, 0, 1))

    def test_one_told_again_is_as_if_told_then(self):
        self.assert_home(6, place(5, 0, 1), place(6, 0, 1), place(5, 0, 1))
        self.assert_home(5, place(5, 0, 1), place(6, 0, 1), place(6, 0, 1))
        self.assert_home(7, place(5, 0, 1), place(6, 0, 1), place(7, 0, 1), place(5, 1, 1), place(6, 0, 1))
        self.assert_home(5, place(5, 0, 1), place(5, 0, 1))

    def test_one_taken_back(self):
        self.assert_home(6, place(5, 0, 1), place(6, 0, 1), place(5, 0, 0))
        self.assert_home(5, place(5, 0, 1), place(6, 0, 1), place(6, 1, 0))
        self.assertEqual(last(place(5, 0, 1), place(5, 0, 0), *self.ALIKE, check(0)), [2])
        self.assertEqual(last(place(5, 0, 1), *self.ALIKE, place(5, 1, 0), check(0)), [2])

    def test_one_taken_back_and_told_once_more(self):
        self.assert_home(6, place(5, 0, 1), place(6, 0, 1), place(5, 0, 0), place(5, 0, 1))
        self.assert_home(5, place(5, 0, 1), place(5, 0, 0), place(5, 0, 1))
        self.assert_home(5, place(5, 0, 1), place(6, 0, 1), place(6, 0, 0), place(6, 0, 1))

    def test_one_taken_back_that_was_none(self):
        self.assert_home(5, place(6, 0, 0), place(5, 0, 1), place(6, 0, 1))

    def test_a_refused_one_changes_no_order(self):
        self.assert_home(5, place(5, 0, 1), place(6, 0, 1), place(20, 0, 1), place(25, 0, 1))

    def test_the_nearest_ahead_of_the_one_told_first(self):
        self.assert_home(7, place(5, 0, 1), place(6, 0, 1), place(7, 0, 1), way(7, 1, 14))
        self.assert_home(7, place(7, 0, 1), place(5, 0, 1), place(6, 0, 1), way(2, 7, 14))

    def test_a_place_for_breaks_is_no_home(self):
        self.assert_home(6, place(5, 1, 0), place(6, 0, 1))

    def test_first_and_last_place_as_homes(self):
        piece = work(1, 1, 100, 200)
        ways = [way(0, 1, 5), way(1, 0, 5), way(19, 1, 5), way(1, 19, 5)]
        self.assertEqual(home_told(place(19, 0, 1), place(0, 0, 1), *ways, piece, check(0)), 19)
        self.assertEqual(home_told(place(0, 0, 1), place(19, 0, 1), *ways, piece, check(0)), 0)

    def test_behind_begins_their_order_is_new(self):
        homes = [place(5, 0, 1), place(6, 0, 1)]
        self.assertEqual(home_told(*homes, begins(), place(6, 0, 1), place(5, 0, 1), *self.ALIKE, check(0)), 6)


if __name__ == "__main__":
    unittest.main()
