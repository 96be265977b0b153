import unittest

from lines import TOP, best, check, checked, drop, duty, each, last, never, numbers, place, rules, way, work

HOME = place(0, 0, 1)
# Each lasts another time, so that an answer tells which one it is about.
THREE = [work(0, 0, 100, 101), work(0, 0, 200, 202), work(0, 0, 300, 303)]
FIRST, SECOND, THIRD = (100, 101), (200, 202), (300, 303)


def alone(number, times):
    """What check answers of one of the three alone, under this number."""
    first, end = times
    return checked(0, duty(0, first - 10, end + 10, end - first + 20, number), end - first, end - first)


class DropTest(unittest.TestCase):
    def assert_left(self, dropped, *times):
        """That these pieces are left in this order, and no others, behind these drops."""
        told = [HOME] + THREE + [drop(k) for k in dropped]
        given = each(*told, *[check(number) for number in range(len(times) + 1)], best())
        self.assertEqual(given[4:4 + len(dropped)], [[0]] * len(dropped))
        asked = given[4 + len(dropped):]
        self.assertEqual(asked[:-2], [alone(number, times[number]) for number in range(len(times))])
        self.assertEqual(asked[-2], [-2])
        pay = sum(end - first + 20 for first, end in times)
        whole = [pay, 1, 1]
        for number, (first, end) in enumerate(times):
            whole = whole + duty(0, first - 10, end + 10, end - first + 20, number)
        self.assertEqual(asked[-1], whole)

    def test_the_whole_answer(self):
        self.assertEqual(last(HOME, *THREE, drop(1)), [0])

    def test_none_dropped(self):
        self.assert_left([], FIRST, SECOND, THIRD)

    def test_at_the_beginning(self):
        self.assert_left([0], SECOND, THIRD)

    def test_in_the_midst(self):
        self.assert_left([1], FIRST, THIRD)

    def test_at_the_end(self):
        self.assert_left([2], FIRST, SECOND)

    def test_several(self):
        self.assert_left([0, 0], THIRD)
        self.assert_left([0, 1], SECOND)
        self.assert_left([1, 1], FIRST)
        self.assert_left([2, 1, 0])

    def test_no_such_piece(self):
        for k in (3, 4, 7, 20, TOP):
            with self.subTest(k=k):
                self.assertEqual(last(HOME, *THREE, drop(k)), [-2])

    def test_the_number_behind_the_last_one_moves_with_them(self):
        self.assertEqual(numbers(*THREE, drop(2), drop(2), drop(1), drop(1), drop(0), drop(0))[3:],
                         [0, -2, 0, -2, 0, -2])

    def test_without_pieces(self):
        for k in (0, 1, TOP):
            with self.subTest(k=k):
                self.assertEqual(numbers(drop(k)), [-2])

    def test_all_dropped_is_as_without_pieces(self):
        given = each(HOME, *THREE, drop(0), drop(0), drop(0), drop(0), check(0), best(), never())
        self.assertEqual(given[4:], [[0], [0], [0], [-2], [-2], [0, 1, 1], [0, 0]])

    def test_a_refused_one_leaves_all_pieces(self):
        asked = [check(0), check(1), check(2), check(0, 1, 2), best(), never()]
        told = [HOME] + THREE
        self.assertEqual(each(*told, drop(3), drop(TOP), *asked)[6:], each(*told, *asked)[4:])

    def test_what_was_told_otherwise_stays(self):
        told = [rules(change=0, rest=20, on=1, off=2, least=7, twice=60), place(3, 0, 1), place(4, 1, 0),
                way(3, 5, 11), way(6, 3, 12), way(4, 6, 13)]
        pieces = [work(5, 4, 500, 520), work(6, 6, 553, 560)]
        expected = checked(0, duty(3, 488, 574, 86 + 26, 0, 1), 27, 20)
        self.assertEqual(last(*told, *pieces, check(0, 1)), expected)
        self.assertEqual(last(*told, work(0, 0, 1, 2), *pieces, drop(0), check(0, 1)), expected)
        self.assertEqual(last(*told, *pieces, work(0, 0, 1, 2), drop(2), check(0, 1)), expected)
        self.assertEqual(last(*told, pieces[0], work(0, 0, 1, 2), pieces[1], drop(1), check(0, 1)), expected)
        self.assertEqual(last(*told, *pieces, drop(1), way(0, 1, 1)), [3])

    def test_there_is_room_for_another_behind_it(self):
        seven = [work(0, 0, 100 * i, 100 * i + 9) for i in range(7)]
        for k in range(7):
            with self.subTest(k=k):
                given = each(HOME, *seven, work(0, 0, 900, 901), drop(k), work(0, 0, 900, 902), check(6),
                             work(0, 0, 900, 901))
                self.assertEqual(given[8:], [[-5], [0], [6], checked(0, duty(0, 890, 912, 22, 6), 2, 2), [-5]])

    def test_a_refused_one_makes_no_room(self):
        seven = [work(0, 0, 100 * i, 100 * i + 9) for i in range(7)]
        self.assertEqual(numbers(*seven, drop(7), work(0, 0, 900, 901))[7:], [-2, -5])

    def test_what_is_never_done_moves_up_too(self):
        told = [HOME, work(0, 0, 1, 2), work(1, 1, 3, 4), work(0, 0, 5, 6), work(2, 2, 7, 8)]
        given = each(*told, never(), drop(0), never(), drop(0), never())
        self.assertEqual([given[5], given[7], given[9]], [[2, 2, 1, 3], [2, 2, 0, 2], [1, 1, 1]])


if __name__ == "__main__":
    unittest.main()
