import unittest

from dutyrules.depot import answers
from dutyrules.state import Depot
from lines import RULES, TOP, begins, line, numbers, place, way, work


def with_one(at, number):
    rules = list(RULES)
    rules[at] = number
    return rules


class BeginsTest(unittest.TestCase):
    def test_the_whole_answer(self):
        self.assertEqual(answers([0, 600, 480, 240, 30, 10, 10, 5, 0, 100000]), [1, 0])

    def test_each_number_may_be_0(self):
        self.assertEqual(numbers(begins([0] * 9)), [0])

    def test_each_number_at_the_bound_is_taken(self):
        for at in range(9):
            with self.subTest(at=at):
                self.assertEqual(numbers(way(0, 1, 1), begins(with_one(at, 100000)), way(0, 1, 1)), [0, 0, 0])
        self.assertEqual(numbers(begins([100000] * 9)), [0])

    def test_each_number_above_the_bound_is_refused(self):
        for at in range(9):
            for number in (100001, TOP):
                with self.subTest(at=at, number=number):
                    self.assertEqual(numbers(begins(with_one(at, number))), [-1])

    def test_a_refused_one_leaves_ways_and_pieces(self):
        for at in range(9):
            with self.subTest(at=at):
                self.assertEqual(
                    numbers(way(0, 1, 5), work(0, 1, 5, 6), begins(with_one(at, 100001)),
                            way(0, 1, 5), work(0, 1, 5, 6)),
                    [0, 0, -1, 1, 1])

    def test_one_that_is_taken_leaves_no_ways_and_no_pieces(self):
        self.assertEqual(
            numbers(way(0, 1, 5), way(1, 0, 5), work(0, 1, 5, 6), work(0, 1, 5, 6), begins(),
                    way(0, 1, 5), work(0, 1, 5, 6)),
            [0, 1, 0, 1, 0, 0, 0])

    def test_behind_one_that_is_taken_there_is_room_again(self):
        full = [way(0, 1, 1)] * 40 + [work(0, 0, 1, 2)] * 7
        self.assertEqual(
            numbers(*full, way(0, 1, 1), work(0, 0, 1, 2), begins(), way(0, 1, 1), work(0, 0, 1, 2))[47:],
            [-5, -5, 0, 0, 0])

    def test_behind_a_refused_one_there_is_no_room(self):
        full = [way(0, 1, 1)] * 40 + [work(0, 0, 1, 2)] * 7
        self.assertEqual(
            numbers(*full, begins(with_one(4, TOP)), way(0, 1, 1), work(0, 0, 1, 2))[47:],
            [-1, -5, -5])

    def test_calls_behind_it_are_read(self):
        self.assertEqual(answers(line(begins(), place(3, 1, 1), begins([0] * 9))), [1, 0, 1, 0, 1, 0])


class KeptRulesTest(unittest.TestCase):
    def depot_with_all(self):
        depot = Depot()
        depot.place(4, 1, 1)
        depot.way(0, 1, 5)
        depot.work(0, 1, 5, 6)
        return depot

    def test_the_rules_at_the_beginning(self):
        depot = Depot()
        self.assertEqual(depot.rules, [600, 480, 240, 30, 10, 10, 5, 0, 100000])
        self.assertEqual((depot.can_break, depot.homes, depot.ways, depot.pieces), ([0] * 20, [], [], []))

    def test_the_rules_told_are_kept_and_all_else_is_gone(self):
        depot = self.depot_with_all()
        self.assertEqual(depot.begins([1, 2, 3, 4, 5, 6, 7, 8, 9]), 0)
        self.assertEqual(depot.rules, [1, 2, 3, 4, 5, 6, 7, 8, 9])
        self.assertEqual((depot.can_break, depot.homes, depot.ways, depot.pieces), ([0] * 20, [], [], []))

    def test_refused_rules_leave_all_as_it_was(self):
        depot = self.depot_with_all()
        self.assertEqual(depot.begins([1, 2, 3, 4, 5, 6, 7, 8, 100001]), -1)
        self.assertEqual(vars(depot), vars(self.depot_with_all()))
        self.assertEqual(depot.homes, [4])

    def test_a_second_depot_begins_with_the_first_rules(self):
        Depot().begins([1] * 9)
        self.assertEqual(Depot().rules, RULES)


if __name__ == "__main__":
    unittest.main()
