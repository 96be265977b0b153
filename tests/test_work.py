import unittest

from dutyrules.depot import answers
from dutyrules.state import Depot
from lines import TOP, numbers, way, work

NOT_AS_TOLD = [
    work(20, 0, 5, 6), work(0, 20, 5, 6), work(20, 20, 5, 6), work(TOP, 0, 5, 6), work(0, TOP, 5, 6),
    work(0, 1, 5, 5), work(0, 1, 0, 0), work(0, 1, 6, 5), work(0, 1, 100, 5), work(0, 1, TOP, 5),
    work(0, 1, 5, 100001), work(0, 1, 5, TOP), work(0, 1, 100000, 100000), work(0, 1, 100000, 100001),
    work(0, 1, 100001, 100002), work(TOP, TOP, TOP, TOP),
]


class WorkTest(unittest.TestCase):
    def test_the_whole_answer(self):
        self.assertEqual(answers([3, 3, 4, 480, 520]), [1, 0])

    def test_as_told(self):
        for told in (work(19, 0, 5, 9), work(0, 19, 5, 9), work(0, 0, 5, 9), work(19, 19, 5, 9), work(0, 1, 5, 6),
                     work(0, 1, 0, 1), work(0, 1, 0, 100000), work(0, 1, 99999, 100000)):
            with self.subTest(told=told):
                self.assertEqual(numbers(told), [0])

    def test_not_as_told(self):
        for told in NOT_AS_TOLD:
            with self.subTest(told=told):
                self.assertEqual(numbers(told), [-1])

    def test_numbers_one_behind_another(self):
        told = [work(i, 19 - i, 100 - i, 200) for i in range(7)]
        self.assertEqual(numbers(*told), [0, 1, 2, 3, 4, 5, 6])

    def test_the_same_piece_again_is_another(self):
        self.assertEqual(numbers(work(0, 1, 5, 6), work(0, 1, 5, 6)), [0, 1])

    def test_the_7th_is_taken_the_8th_refused(self):
        self.assertEqual(numbers(*[work(0, 1, 5, 6)] * 9), [0, 1, 2, 3, 4, 5, 6, -5, -5])

    def test_not_as_told_goes_ahead_of_no_room(self):
        full = [work(0, 1, 5, 6)] * 7
        for told in NOT_AS_TOLD:
            with self.subTest(told=told):
                self.assertEqual(numbers(*full, told, work(0, 1, 5, 6))[7:], [-1, -5])

    def test_a_refusal_takes_no_number_and_no_room(self):
        told = [work(0, 1, 5, 6)] + NOT_AS_TOLD + [work(0, 1, 5, 6)] * 7
        self.assertEqual(numbers(*told), [0] + [-1] * 16 + [1, 2, 3, 4, 5, 6, -5])

    def test_room_for_ways_is_left(self):
        self.assertEqual(numbers(*[work(0, 1, 5, 6)] * 8, way(0, 1, 5))[7:], [-5, 0])


class KeptPiecesTest(unittest.TestCase):
    def test_kept_as_told_in_order(self):
        depot = Depot()
        depot.work(3, 4, 480, 520)
        depot.work(4, 4, 100, 90)
        depot.work(4, 4, 90, 100)
        self.assertEqual(depot.pieces, [(3, 4, 480, 520), (4, 4, 90, 100)])

    def test_the_8th_is_not_kept(self):
        depot = Depot()
        given = [depot.work(0, 1, i, 100) for i in range(8)]
        self.assertEqual(given[6:], [6, -5])
        self.assertEqual(depot.pieces, [(0, 1, i, 100) for i in range(7)])


if __name__ == "__main__":
    unittest.main()
