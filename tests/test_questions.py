"""Points 2 and 3: rounds, round, who, wait, waits, chain."""

import unittest
from itertools import product

from support import LARGEST, ask_of, begin, chain, move, out, round_of, rounds, wait, waits, who

MIXED = [3, 1, 4, 1, 5, 9, 2, 6, 5, 3, 5, 8]


class Rounds(unittest.TestCase):
    def check(self, queue, told):
        self.assertEqual(ask_of(queue, rounds()), [told])

    def test_nobody(self):
        self.check([], [0])

    def test_one(self):
        self.check([1], [1, 1])
        self.check([30], [1, 1])

    def test_all_to_one_row(self):
        self.check([5] * 12, [12] + list(range(1, 13)))

    def test_rows_that_rise(self):
        self.check(list(range(1, 13)), [12] + list(range(1, 13)))

    def test_rows_that_fall(self):
        self.check(list(range(30, 18, -1)), [1] + [1] * 12)

    def test_two_alike_beside_each_other(self):
        self.check([4, 4], [2, 1, 2])
        self.check([5, 4, 4, 3], [2, 1, 1, 2, 1])

    def test_the_last_row(self):
        self.check([30, 29, 30, 1], [2, 1, 1, 2, 1])

    def test_ordinary(self):
        self.check(MIXED, [6, 1, 1, 2, 2, 3, 4, 3, 4, 4, 4, 5, 6])


class Round(unittest.TestCase):
    def test_each(self):
        told = ask_of(MIXED, *[round_of(k) for k in range(12)])
        self.assertEqual(told, [[t] for t in [1, 1, 2, 2, 3, 4, 3, 4, 4, 4, 5, 6]])

    def test_no_such_passenger(self):
        for k in (2, 3, LARGEST):
            self.assertEqual(ask_of([1, 2], round_of(k)), [[-2]], k)
        self.assertEqual(ask_of([1, 2], round_of(0), round_of(1)), [[1], [2]])
        self.assertEqual(ask_of([], round_of(0)), [[-2]])


class Who(unittest.TestCase):
    def test_each_round(self):
        told = ask_of(MIXED, *[who(t) for t in range(8)])
        self.assertEqual(told, [[0], [2, 0, 1], [2, 2, 3], [2, 4, 6], [4, 5, 7, 8, 9], [1, 10], [1, 11], [0]])

    def test_a_round_in_which_nobody_sits(self):
        for queue in ([], [1], [2, 1], [1, 2]):
            self.assertEqual(ask_of(queue, who(0), who(3), who(12), who(LARGEST)), [[0]] * 4, queue)
        self.assertEqual(ask_of([], who(1)), [[0]])

    def test_all_in_the_first(self):
        self.assertEqual(ask_of([3, 2, 1], who(1), who(2)), [[3, 0, 1, 2], [0]])


class Wait(unittest.TestCase):
    def test_ordinary(self):
        told = ask_of(MIXED, *[wait(k) for k in range(12)])
        self.assertEqual(told, [[-33], [-33], [0], [1], [2], [4], [3], [4], [4], [6], [8], [10]])

    def test_not_the_first_of_all_but_the_first_of_the_round_before(self):
        self.assertEqual(ask_of([1, 2, 3], wait(2)), [[1]])
        self.assertEqual(ask_of([2, 1, 2, 2], wait(2), wait(3)), [[0], [2]])

    def test_of_several_in_the_round_before_the_first(self):
        self.assertEqual(ask_of([3, 2, 1, 3], wait(3)), [[0]])

    def test_not_one_of_the_round_before_whom_they_do_not_wait_for(self):
        self.assertEqual(ask_of([3, 1, 2], wait(2)), [[1]])

    def test_for_nobody(self):
        self.assertEqual(ask_of([3, 2, 1], wait(0), wait(1), wait(2)), [[-33]] * 3)
        self.assertEqual(ask_of([1], wait(0)), [[-33]])

    def test_no_such_passenger(self):
        for k in (3, 4, LARGEST):
            self.assertEqual(ask_of([3, 2, 1], wait(k)), [[-2]], k)
        self.assertEqual(ask_of([], wait(0)), [[-2]])


class Waits(unittest.TestCase):
    def test_each_two(self):
        queue = [2, 1, 2, 3]
        told = ask_of(queue, *[waits(k, j) for k, j in product(range(4), repeat=2)])
        self.assertEqual(told, [[x] for x in [0, 0, 0, 0,
                                              0, 0, 0, 0,
                                              1, 1, 0, 0,
                                              1, 1, 1, 0]])

    def test_nobody_waits_for_themselves(self):
        self.assertEqual(ask_of([1, 1], waits(0, 0), waits(1, 1)), [[0], [0]])

    def test_also_for_one_of_an_earlier_round(self):
        self.assertEqual(ask_of([1, 2, 3], waits(2, 0)), [[1]])

    def test_no_such_passenger(self):
        for k, j in ((2, 0), (0, 2), (2, 2), (1, 2), (LARGEST, 0), (0, LARGEST), (LARGEST, LARGEST)):
            self.assertEqual(ask_of([1, 2], waits(k, j)), [[-2]], (k, j))
        self.assertEqual(ask_of([], waits(0, 0)), [[-2]])


class Chain(unittest.TestCase):
    def check(self, queue, first):
        self.assertEqual(ask_of(queue, chain()), [[len(first)] + first])

    def test_nobody(self):
        self.check([], [])

    def test_one(self):
        self.check([30], [0])

    def test_all_to_one_row(self):
        self.check([1] * 12, list(range(12)))

    def test_rows_that_rise(self):
        self.check(list(range(19, 31)), list(range(12)))

    def test_rows_that_fall(self):
        self.check(list(range(12, 0, -1)), [0])

    def test_two_alike_beside_each_other(self):
        self.check([5, 4, 4, 3], [1, 2])

    def test_of_like_chains_the_first(self):
        self.check([2, 1, 2, 1], [0, 2])
        self.check([1, 3, 2, 4], [0, 1, 3])
        self.check([1, 9, 3, 4, 2, 8], [0, 2, 3, 5])
        self.check([5, 6, 1, 2, 3, 7], [2, 3, 4, 5])

    def test_ordinary(self):
        self.check(MIXED, [0, 2, 4, 8, 10, 11])

    def test_after_a_move_by_the_new_numbers(self):
        self.assertEqual(ask_of([3, 1, 2], chain(), move(0, 2), chain()), [[2, 1, 2], [3], [3, 0, 1, 2]])


class AskingChangesNothing(unittest.TestCase):
    def test_asked_again_the_same_is_answered(self):
        calls = [rounds(), round_of(3), who(2), wait(5), waits(5, 4), chain(), begin(31), out(12)]
        told = ask_of(MIXED, *calls, *calls)
        self.assertEqual(told[:len(calls)], told[len(calls):])


if __name__ == "__main__":
    unittest.main()
