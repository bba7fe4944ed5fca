"""Point 4: best, order, add, least."""

import unittest

from boardingqueue.queue import answers
from support import LARGEST, add, ask_of, best, come, least, order, pairs, rounds, the_queue, the_state

MIXED = [3, 1, 4, 1, 5, 9, 2, 6, 5, 3, 5, 8]


class Best(unittest.TestCase):
    def check(self, queue, told):
        """Best tells so, and the order it tells, handed to order, takes just the rounds that it tells."""
        self.assertEqual(ask_of(queue, best()), [told], queue)
        self.assertEqual(ask_of(queue, order(*told[1:]))[0][0], told[0], queue)

    def test_nobody(self):
        self.check([], [0])

    def test_one(self):
        self.check([1], [1, 0])
        self.check([30], [1, 0])

    def test_all_to_one_row(self):
        self.check([5] * 2, [2, 0, 1])
        self.check([5] * 12, [12] + list(range(12)))

    def test_all_to_rows_of_their_own(self):
        self.check([1, 2, 3], [1, 2, 1, 0])
        self.check([3, 2, 1], [1, 0, 1, 2])
        self.check([2, 30, 1, 4], [1, 1, 3, 0, 2])
        self.check(list(range(1, 13)), [1] + list(range(11, -1, -1)))
        self.check(list(range(12, 0, -1)), [1] + list(range(12)))

    def test_two_of_a_row_among_others(self):
        self.check([2, 1, 2, 3], [2, 3, 0, 1, 2])
        self.check([1, 1, 2], [2, 2, 0, 1])
        self.check([1, 2, 2], [2, 1, 0, 2])

    def test_two_alike_beside_each_other(self):
        self.check([4, 4], [2, 0, 1])
        self.check([5, 4, 4, 3], [2, 0, 1, 3, 2])

    def test_of_a_row_the_one_who_came_first_again_and_again(self):
        self.check([1, 2, 1, 2, 1], [3, 1, 0, 3, 2, 4])
        self.check([7, 7, 30, 1, 7, 30], [3, 2, 0, 3, 5, 1, 4])

    def test_twelve(self):
        self.check(MIXED, [3, 5, 11, 7, 4, 2, 0, 6, 1, 8, 9, 3, 10])

    def test_it_tells_numbers_and_changes_no_queue(self):
        self.assertEqual(ask_of([1, 2, 3], best(), the_queue(), rounds()), [[1, 2, 1, 0], [3, 1, 2, 3], [3, 1, 2, 3]])


class Order(unittest.TestCase):
    def test_ordinary(self):
        told = ask_of([1, 2, 3], order(0, 1, 2), order(2, 1, 0), order(1, 0, 2), order(2, 0, 1))
        self.assertEqual(told, [[3, 1, 2, 3], [1, 1, 1, 1], [2, 1, 1, 2], [2, 1, 1, 2]])

    def test_the_rounds_stand_in_the_order_that_is_told(self):
        self.assertEqual(ask_of([5, 3, 3], order(1, 0, 2)), [[2, 1, 2, 2]])
        self.assertEqual(ask_of([1, 1, 9], order(2, 1, 0)), [[2, 1, 1, 2]])
        self.assertEqual(ask_of([4, 1, 2, 3], order(1, 0, 2, 3)), [[3, 1, 2, 2, 3]])

    def test_in_the_order_of_the_queue_it_is_as_rounds_tells(self):
        told = ask_of(MIXED, rounds(), order(*range(12)))
        self.assertEqual(told[0], told[1])

    def test_nobody(self):
        self.assertEqual(ask_of([], order()), [[0]])
        for numbers in ([0], [LARGEST], [0, 0], range(14)):
            self.assertEqual(ask_of([], order(*numbers)), [[-22]], numbers)

    def test_one(self):
        self.assertEqual(ask_of([30], order(0), order(), order(1), order(0, 0), order(LARGEST)),
                         [[1, 1], [-22], [-22], [-22], [-22]])

    def test_all_to_one_row(self):
        self.assertEqual(ask_of([5] * 3, order(2, 0, 1)), [[3, 1, 2, 3]])
        self.assertEqual(ask_of([5] * 12, order(*range(11, -1, -1))), [[12] + list(range(1, 13))])

    def test_two_alike_beside_each_other(self):
        self.assertEqual(ask_of([5, 4, 4, 3], order(0, 2, 1, 3), order(3, 2, 1, 0)), [[2, 1, 1, 2, 1], [4, 1, 2, 3, 4]])

    def test_lists_of_0_to_14_numbers(self):
        for size in range(13):
            queue = list(range(1, size + 1))
            for length in range(15):
                told = ask_of(queue, order(*range(length)), the_state())
                expected = [size] + list(range(1, size + 1)) if length == size else [-22]
                self.assertEqual(told, [expected, [size, 30]], (size, length))

    def test_too_short_and_too_long(self):
        for numbers in ([], [0], [1, 2], [0, 2], [0, 1, 2, 0], [0, 1, 2, 3], [2, 1, 0, LARGEST], list(range(14))):
            self.assertEqual(ask_of([1, 2, 3], order(*numbers)), [[-22]], numbers)

    def test_a_number_twice(self):
        for numbers in ([0, 0, 1], [0, 1, 1], [2, 2, 2], [2, 0, 2], [0, 0, 1, 2]):
            self.assertEqual(ask_of([1, 2, 3], order(*numbers)), [[-22]], numbers)

    def test_a_number_that_is_nobodys(self):
        for number in (3, 4, 11, 12, 13, 1 << 31, LARGEST):
            for numbers in ([0, 1, number], [number, 2, 1], [0, number, 2], [number] * 3):
                self.assertEqual(ask_of([1, 2, 3], order(*numbers)), [[-22]], numbers)

    def test_numbers_that_were_somebodys(self):
        self.assertEqual(ask_of([1, 2, 3], [2, 0], order(0, 1, 2), order(1, 2), order(1, 0)),
                         [[2], [-22], [-22], [1, 1, 1]])

    def test_twelve(self):
        backwards = list(range(11, -1, -1))
        self.assertEqual(ask_of(list(range(1, 13)), order(*backwards)), [[1] + [1] * 12])
        self.assertEqual(ask_of(MIXED, order(*backwards)), [[4, 1, 1, 1, 2, 3, 1, 4, 3, 1, 2, 2, 3]])
        for numbers in (backwards[1:], backwards + [0], backwards + [12], [12] + backwards[1:], [1] + backwards[:-1],
                        backwards + [0, 1], [LARGEST] * 12):
            self.assertEqual(ask_of(MIXED, order(*numbers)), [[-22]], numbers)

    def test_the_queue_is_as_it_was(self):
        for numbers in ([2, 1, 0], [1, 2, 0], [0, 0, 0], [0, 1], [0, 1, 2, 3], [LARGEST] * 14):
            told = ask_of([5, 3, 4], order(*numbers), the_queue(), rounds(), the_state())
            self.assertEqual(told[1:], [[3, 5, 3, 4], [2, 1, 1, 2], [3, 30]], numbers)

    def test_the_call_behind_is_read_from_the_right_place(self):
        for size in range(15):
            given = answers([0, 6, 1, 4] + [13, size] + [0] * size + [18, 17])
            expected = [2, 1, 1] if size == 1 else [1, -22]
            self.assertEqual(given, [1, 0, 1, 0] + expected + [2, 1, 6, 2, 1, 4], size)


class Add(unittest.TestCase):
    def test_how_many_rounds_then_as_it_is(self):
        told = ask_of([2, 4, 3], *[add(row, place) for row in (1, 3, 5) for place in range(4)])
        self.assertEqual(told, [[3, 2], [2, 2], [2, 2], [2, 2],
                                [2, 2], [3, 2], [3, 2], [3, 2],
                                [2, 2], [2, 2], [3, 2], [3, 2]])

    def test_nobody(self):
        self.assertEqual(ask_of([], add(1, 0), add(30, 0), add(1, 1), add(1, LARGEST)), [[1, 0], [1, 0], [-22], [-22]])

    def test_one(self):
        told = ask_of([3], add(3, 0), add(3, 1), add(2, 0), add(2, 1), add(4, 0), add(4, 1), add(3, 2))
        self.assertEqual(told, [[2, 1], [2, 1], [2, 1], [1, 1], [1, 1], [2, 1], [-22]])

    def test_all_to_one_row(self):
        told = ask_of([5] * 4, *[add(row, place) for row in (4, 5, 6) for place in (0, 2, 4)])
        self.assertEqual(told, [[5, 4], [4, 4], [4, 4], [5, 4], [5, 4], [5, 4], [4, 4], [4, 4], [5, 4]])

    def test_rows_that_rise_and_rows_that_fall(self):
        self.assertEqual(ask_of([2, 4, 6], *[add(4, place) for place in range(4)]), [[3, 3], [4, 3], [4, 3], [3, 3]])
        self.assertEqual(ask_of([6, 4, 2], *[add(5, place) for place in range(4)]), [[2, 1], [1, 1], [2, 1], [2, 1]])

    def test_beside_one_alike(self):
        self.assertEqual(ask_of([6, 4, 2], add(4, 1), add(4, 2)), [[2, 1], [2, 1]])

    def test_one_more_ahead_of_all(self):
        self.assertEqual(ask_of([3, 2, 1], add(1, 0), add(4, 0), add(30, 0)), [[2, 1], [1, 1], [1, 1]])
        self.assertEqual(ask_of([1, 2, 3], add(1, 0), add(2, 0), add(4, 0)), [[4, 3], [3, 3], [3, 3]])

    def test_places(self):
        for size in (0, 1, 3, 11, 12):
            queue = list(range(1, size + 1))
            told = ask_of(queue, add(30, 0), add(30, size), add(30, size + 1), add(30, size + 2), add(30, LARGEST))
            self.assertEqual(told, [[max(size, 1), size], [size + 1, size], [-22], [-22], [-22]], size)
            if size > 0:
                self.assertEqual(ask_of(queue, add(30, size - 1)), [[size, size]], size)

    def test_rows(self):
        told = ask_of([2], *[add(row, 1) for row in (0, 1, 2, 5, 6, 30, LARGEST)], rows=5)
        self.assertEqual(told, [[-22], [1, 1], [2, 1], [2, 1], [-22], [-22], [-22]])
        self.assertEqual(ask_of([30], add(30, 1), add(31, 1), add(31, 0)), [[2, 1], [-22], [-22]])

    def test_neither_row_nor_place(self):
        self.assertEqual(ask_of([1], add(0, 2), add(LARGEST, LARGEST), add(6, 2), rows=5), [[-22]] * 3)

    def test_a_thirteenth(self):
        told = ask_of([5] * 12, add(5, 0), add(5, 12), add(4, 12), add(6, 0), add(5, 13), come(5), the_state())
        self.assertEqual(told, [[13, 12], [13, 12], [12, 12], [12, 12], [-22], [-28], [12, 30]])

    def test_afterwards_nobody_has_come(self):
        told = ask_of([2, 1], add(1, 0), the_queue(), the_state(), rounds(), pairs(), come(2))
        self.assertEqual(told, [[2, 1], [2, 2, 1], [2, 30], [1, 1, 1], [0], [2]])


class Least(unittest.TestCase):
    def test_ordinary(self):
        told = ask_of([2, 4, 3], *[least(row) for row in (1, 2, 3, 4, 5)])
        self.assertEqual(told, [[1, 2], [3, 2], [0, 2], [0, 2], [0, 2]])

    def test_nobody(self):
        self.assertEqual(ask_of([], least(1), least(30)), [[0, 1], [0, 1]])

    def test_one(self):
        self.assertEqual(ask_of([3], least(2), least(3), least(4)), [[1, 1], [0, 2], [0, 1]])

    def test_of_like_places_the_first(self):
        self.assertEqual(ask_of([5] * 4, least(5), least(4), least(6)), [[0, 5], [1, 4], [0, 4]])
        self.assertEqual(ask_of([1, 2, 3], least(2), least(1)), [[0, 3], [2, 3]])

    def test_rows_that_rise(self):
        self.assertEqual(ask_of([2, 4, 6], *[least(row) for row in (1, 2, 4, 6, 7)]),
                         [[1, 3], [2, 3], [0, 3], [0, 3], [0, 3]])

    def test_rows_that_fall(self):
        self.assertEqual(ask_of([6, 4, 2], *[least(row) for row in (1, 3, 5, 7, 4)]),
                         [[3, 1], [2, 1], [1, 1], [0, 1], [0, 2]])

    def test_the_last_place_of_twelve(self):
        self.assertEqual(ask_of(list(range(13, 1, -1)), least(1), least(14)), [[12, 1], [0, 1]])

    def test_rows(self):
        told = ask_of([2], *[least(row) for row in (0, 1, 5, 6, 30, LARGEST)], rows=5)
        self.assertEqual(told, [[-22], [1, 1], [0, 1], [-22], [-22], [-22]])
        self.assertEqual(ask_of([30], least(30), least(31)), [[0, 2], [-22]])

    def test_a_thirteenth(self):
        told = ask_of([5] * 12, least(5), least(4), least(6), come(5), the_state())
        self.assertEqual(told, [[0, 13], [1, 12], [0, 12], [-28], [12, 30]])

    def test_afterwards_nobody_has_come(self):
        told = ask_of([2, 1], least(1), the_queue(), the_state(), rounds(), pairs(), come(2))
        self.assertEqual(told, [[0, 2], [2, 2, 1], [2, 30], [1, 1, 1], [0], [2]])


if __name__ == "__main__":
    unittest.main()
