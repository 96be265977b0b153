import unittest

from dutyrules.depot import answers
from dutyrules.state import Depot
from lines import TOP, numbers, place, way, work

YES_OR_NO = [(0, 0), (0, 1), (1, 0), (1, 1)]


class PlaceTest(unittest.TestCase):
    def test_the_whole_answer(self):
        self.assertEqual(answers([1, 7, 1, 0]), [1, 0])

    def test_the_first_and_the_last_place_are_taken(self):
        for i in (0, 19):
            for can_break, home in YES_OR_NO:
                with self.subTest(i=i, can_break=can_break, home=home):
                    self.assertEqual(numbers(place(i, can_break, home)), [0])

    def test_places_behind_the_last_are_refused(self):
        for i in (20, 21, 100000, TOP):
            for can_break, home in YES_OR_NO:
                with self.subTest(i=i, can_break=can_break, home=home):
                    self.assertEqual(numbers(place(i, can_break, home)), [-1])

    def test_the_same_place_again(self):
        told = [place(5, can_break, home) for can_break, home in YES_OR_NO * 2]
        self.assertEqual(numbers(*told), [0] * 8)

    def test_all_places(self):
        self.assertEqual(numbers(*[place(i, 1, 1) for i in range(20)]), [0] * 20)

    def test_ways_and_pieces_go_on_behind_it(self):
        self.assertEqual(
            numbers(way(0, 1, 1), work(0, 1, 1, 2), place(0, 1, 1), place(20, 1, 1), way(0, 1, 1), work(0, 1, 1, 2)),
            [0, 0, 0, -1, 1, 1])


class KeptPlacesTest(unittest.TestCase):
    def told(self, *places):
        depot = Depot()
        for i, can_break, home in places:
            depot.place(i, can_break, home)
        return depot

    def breaks(self, depot):
        return [i for i in range(20) if depot.can_break[i] == 1]

    def test_break_and_home_are_kept_apart(self):
        depot = self.told((0, 1, 0), (19, 0, 1), (3, 1, 1), (4, 0, 0))
        self.assertEqual(self.breaks(depot), [0, 3])
        self.assertEqual(depot.homes, [19, 3])

    def test_what_is_told_last_holds(self):
        depot = self.told((0, 1, 0), (1, 0, 1), (0, 0, 1), (1, 1, 0))
        self.assertEqual(self.breaks(depot), [1])
        self.assertEqual(depot.homes, [0])

    def test_a_home_told_again_counts_as_told_then(self):
        self.assertEqual(self.told((2, 0, 1), (1, 0, 1), (2, 0, 1)).homes, [1, 2])
        self.assertEqual(self.told((2, 0, 1), (1, 0, 1), (2, 0, 0), (2, 0, 1)).homes, [1, 2])

    def test_a_refusal_changes_nothing(self):
        depot = self.told((2, 1, 1), (1, 0, 1))
        self.assertEqual(depot.place(20, 1, 1), -1)
        self.assertEqual(vars(depot), vars(self.told((2, 1, 1), (1, 0, 1))))

    def test_ways_and_pieces_are_left(self):
        depot = Depot()
        depot.way(0, 1, 7)
        depot.work(0, 1, 7, 8)
        depot.place(0, 1, 1)
        self.assertEqual((depot.ways, depot.pieces), ([(0, 1, 7)], [(0, 1, 7, 8)]))


if __name__ == "__main__":
    unittest.main()
