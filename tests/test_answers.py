import unittest

from dutyrules.depot import answer_of, answers
from dutyrules.state import Depot
from lines import TOP, begins, line, numbers, place, way, work

MIXED = line(
    begins([700, 500, 250, 20, 5, 5, 0, 60, 400]), place(0, 1, 1), place(20, 0, 0), way(0, 1, 15), way(1, 1, 15),
    way(1, 0, 20), work(0, 1, 300, 400), work(1, 0, 400, 400), work(1, 0, 420, 500), begins([TOP] * 9),
    way(0, 1, 15), work(0, 0, 1, 2))
MIXED_ANSWERS = [1, 0, 1, 0, 1, -1, 1, 0, 1, -1, 1, 1, 1, 0, 1, -1, 1, 1, 1, -1, 1, 2, 1, 2]


class AnswersTest(unittest.TestCase):
    def test_several_calls_in_one_list(self):
        self.assertEqual(answers(list(MIXED)), MIXED_ANSWERS)

    def test_numbers_like_those_of_calls_are_read_as_told(self):
        self.assertEqual(answers([0, 3, 2, 1, 0, 3, 2, 1, 0, 3, 2, 3, 2, 1, 3, 1, 1, 2, 3, 1, 0, 1, 1]),
                         [1, 0, 1, 0, 1, 0, 1, 0])

    def test_what_is_refused_is_as_if_not_told(self):
        refused = [begins([0] * 8 + [100001]), place(20, 1, 1), way(1, 1, 1), work(0, 1, 2, 2)]
        taken = [way(0, 1, 5), work(0, 1, 5, 6), place(0, 1, 1), way(0, 1, 5), work(0, 1, 5, 6)]
        mixed = line(*[told for call in taken for told in refused + [call]])
        given = answers(mixed)
        self.assertEqual(len(given), 50)
        without = [given[at:at + 2] for at in range(8, 50, 10)]
        self.assertEqual(line(*without), answers(line(*taken)))

    def test_the_list_handed_in_stays_as_it_was(self):
        calls = list(MIXED)
        answers(calls)
        self.assertEqual(calls, MIXED)

    def test_nothing_is_kept_from_one_time_to_the_next(self):
        told = line(begins([0] * 9), way(0, 1, 5), work(0, 1, 5, 6), place(0, 1, 1))
        self.assertEqual([answers(told), answers(told)], [[1, 0, 1, 0, 1, 0, 1, 0]] * 2)
        self.assertEqual(answers(way(0, 1, 5)), [1, 0])
        self.assertEqual([answers(MIXED), answers(MIXED)], [MIXED_ANSWERS] * 2)

    def test_the_list_given_back_is_a_new_one_of_whole_numbers(self):
        first = answers(MIXED)
        first.append(7)
        second = answers(MIXED)
        self.assertEqual(second, MIXED_ANSWERS)
        self.assertTrue(all(type(number) is int for number in second))

    def test_a_line_of_60_calls(self):
        told = [begins()] + [place(i, i % 2, 1) for i in range(12)]
        told = told + [way(i % 20, (i + 3) % 20, i) for i in range(40)] + [work(i, i, i, i + 1) for i in range(7)]
        self.assertEqual(len(told), 60)
        self.assertEqual(numbers(*told), [0] * 13 + list(range(40)) + list(range(7)))

    def test_60_calls_of_one_kind(self):
        self.assertEqual(numbers(*[begins()] * 60), [0] * 60)
        self.assertEqual(numbers(*[way(0, 1, 1)] * 60), list(range(40)) + [-5] * 20)
        self.assertEqual(numbers(*[work(0, 1, 1, 2)] * 60), list(range(7)) + [-5] * 53)


class AnswerOfTest(unittest.TestCase):
    """That each number of a call comes to its own place in the depot."""

    def test_begins(self):
        depot = Depot()
        self.assertEqual(answer_of(depot, 0, [1, 2, 3, 4, 5, 6, 7, 8, 9]), [0])
        self.assertEqual(depot.rules, [1, 2, 3, 4, 5, 6, 7, 8, 9])

    def test_place(self):
        depot = Depot()
        self.assertEqual([answer_of(depot, 1, [3, 1, 0]), answer_of(depot, 1, [4, 0, 1])], [[0], [0]])
        self.assertEqual(depot.can_break, [0] * 3 + [1] + [0] * 16)
        self.assertEqual(depot.homes, [4])

    def test_way(self):
        depot = Depot()
        self.assertEqual(answer_of(depot, 2, [3, 4, 25]), [0])
        self.assertEqual(depot.ways, [(3, 4, 25)])

    def test_work(self):
        depot = Depot()
        self.assertEqual(answer_of(depot, 3, [3, 4, 480, 520]), [0])
        self.assertEqual(depot.pieces, [(3, 4, 480, 520)])


if __name__ == "__main__":
    unittest.main()
