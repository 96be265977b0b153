import unittest

from dutyrules.depot import answers
from dutyrules.state import Depot
from lines import TOP, numbers, way, work

NOT_AS_TOLD = [
    way(20, 0, 5), way(0, 20, 5), way(20, 21, 5), way(20, 20, 5), way(TOP, 0, 5), way(0, TOP, 5),
    way(0, 0, 5), way(19, 19, 5), way(0, 1, 100001), way(0, 1, TOP), way(TOP, TOP, TOP),
]


class WayTest(unittest.TestCase):
    def test_the_whole_answer(self):
        self.assertEqual(answers([2, 3, 4, 25]), [1, 0])

    def test_as_told(self):
        for told in (way(19, 0, 5), way(0, 19, 5), way(18, 19, 5), way(0, 1, 0), way(0, 1, 1), way(0, 1, 100000)):
            with self.subTest(told=told):
                self.assertEqual(numbers(told), [0])

    def test_not_as_told(self):
        for told in NOT_AS_TOLD:
            with self.subTest(told=told):
                self.assertEqual(numbers(told), [-1])

    def test_numbers_one_behind_another(self):
        self.assertEqual(numbers(way(0, 1, 5), way(1, 0, 5), way(7, 3, 0), way(19, 18, 9)), [0, 1, 2, 3])

    def test_several_of_the_same_two_places(self):
        self.assertEqual(numbers(way(0, 1, 5), way(0, 1, 5), way(0, 1, 4), way(0, 1, 6)), [0, 1, 2, 3])

    def test_the_40th_is_taken_the_41st_refused(self):
        told = [way(i % 20, (i + 1) % 20, i) for i in range(40)]
        self.assertEqual(numbers(*told, way(0, 1, 5), way(5, 4, 0)), list(range(40)) + [-5, -5])

    def test_not_as_told_goes_ahead_of_no_room(self):
        full = [way(0, 1, 1)] * 40
        for told in NOT_AS_TOLD:
            with self.subTest(told=told):
                self.assertEqual(numbers(*full, told, way(0, 1, 1))[40:], [-1, -5])

    def test_a_refusal_takes_no_number_and_no_room(self):
        self.assertEqual(numbers(way(0, 1, 5), *NOT_AS_TOLD, way(0, 1, 5)), [0] + [-1] * 11 + [1])
        told = NOT_AS_TOLD + [way(0, 1, 1)] * 40 + [way(0, 1, 1)]
        self.assertEqual(numbers(*told)[11:], list(range(40)) + [-5])

    def test_ways_and_pieces_are_counted_apart(self):
        self.assertEqual(numbers(way(0, 1, 5), work(0, 1, 5, 6), way(0, 1, 5), work(0, 1, 5, 6)), [0, 0, 1, 1])
        self.assertEqual(numbers(*[way(0, 1, 1)] * 41, work(0, 1, 5, 6))[40:], [-5, 0])


class KeptWaysTest(unittest.TestCase):
    def test_kept_as_told_in_order(self):
        depot = Depot()
        depot.way(3, 4, 25)
        depot.way(4, 3, 0)
        depot.way(3, 4, 25)
        depot.way(4, 4, 1)
        self.assertEqual(depot.ways, [(3, 4, 25), (4, 3, 0), (3, 4, 25)])

    def test_the_41st_is_not_kept(self):
        depot = Depot()
        given = [depot.way(0, 1, i) for i in range(41)]
        self.assertEqual(given[39:], [39, -5])
        self.assertEqual(depot.ways, [(0, 1, i) for i in range(40)])


if __name__ == "__main__":
    unittest.main()
