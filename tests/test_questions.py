"""Points 2 and 3: rounds, round, who, wait, waits, pairs, chain, through."""

import unittest
from itertools import product

from support import LARGEST, add, ask_of, begin, best, chain, least, move, order, out, pairs, round_of, rounds
from support import the_queue, the_state, those_to, through, wait, waits, who

MIXED = [3, 1, 4, 1, 5, 9, 2, 6, 5, 3, 5, 8]


class Rounds(unittest.TestCase):
    def check(self, queue, told):
        self.assertEqual(ask_of(queue, rounds()), [told])

    def test_nobody(self):
        self.check([], [0])

    def test_one(self):
        self.check([1], [1, 1])
        self.check([30], [1, 1])

    def test_all_to_one_row(self):
        self.check([5] * 12, [12] + list(range(1, 13)))

    def test_rows_that_rise(self):
        self.check(list(range(1, 13)), [12] + list(range(1, 13)))

    def test_rows_that_fall(self):
        self.check(list(range(30, 18, -1)), [1] + [1] * 12)

    def test_two_alike_beside_each_other(self):
        self.check([4, 4], [2, 1, 2])
        self.check([5, 4, 4, 3], [2, 1, 1, 2, 1])

    def test_the_last_row(self):
        self.check([30, 29, 30, 1], [2, 1, 1, 2, 1])

    def test_ordinary(self):
        self.check(MIXED, [6, 1, 1, 2, 2, 3, 4, 3, 4, 4, 4, 5, 6])


class Round(unittest.TestCase):
    def test_each(self):
        told = ask_of(MIXED, *[round_of(k) for k in range(12)])
        self.assertEqual(told, [[t] for t in [1, 1, 2, 2, 3, 4, 3, 4, 4, 4, 5, 6]])

    def test_no_such_passenger(self):
        for k in (2, 3, LARGEST):
            self.assertEqual(ask_of([1, 2], round_of(k)), [[-2]], k)
        self.assertEqual(ask_of([1, 2], round_of(0), round_of(1)), [[1], [2]])
        self.assertEqual(ask_of([], round_of(0)), [[-2]])


class Who(unittest.TestCase):
    def test_each_round(self):
        told = ask_of(MIXED, *[who(t) for t in range(8)])
        self.assertEqual(told, [[0], [2, 0, 1], [2, 2, 3], [2, 4, 6], [4, 5, 7, 8, 9], [1, 10], [1, 11], [0]])

    def test_a_round_in_which_nobody_sits(self):
        for queue in ([], [1], [2, 1], [1, 2]):
            self.assertEqual(ask_of(queue, who(0), who(3), who(12), who(LARGEST)), [[0]] * 4, queue)
        self.assertEqual(ask_of([], who(1)), [[0]])

    def test_all_in_the_first(self):
        self.assertEqual(ask_of([3, 2, 1], who(1), who(2)), [[3, 0, 1, 2], [0]])


class Wait(unittest.TestCase):
    def test_ordinary(self):
        told = ask_of(MIXED, *[wait(k) for k in range(12)])
        self.assertEqual(told, [[-33], [-33], [0], [1], [2], [4], [3], [4], [4], [6], [8], [10]])

    def test_not_the_first_of_all_but_the_first_of_the_round_before(self):
        self.assertEqual(ask_of([1, 2, 3], wait(2)), [[1]])
        self.assertEqual(ask_of([2, 1, 2, 2], wait(2), wait(3)), [[0], [2]])

    def test_of_several_in_the_round_before_the_first(self):
        self.assertEqual(ask_of([3, 2, 1, 3], wait(3)), [[0]])

    def test_not_one_of_the_round_before_whom_they_do_not_wait_for(self):
        self.assertEqual(ask_of([3, 1, 2], wait(2)), [[1]])

    def test_for_nobody(self):
        self.assertEqual(ask_of([3, 2, 1], wait(0), wait(1), wait(2)), [[-33]] * 3)
        self.assertEqual(ask_of([1], wait(0)), [[-33]])

    def test_no_such_passenger(self):
        for k in (3, 4, LARGEST):
            self.assertEqual(ask_of([3, 2, 1], wait(k)), [[-2]], k)
        self.assertEqual(ask_of([], wait(0)), [[-2]])


class Waits(unittest.TestCase):
    def test_each_two(self):
        queue = [2, 1, 2, 3]
        told = ask_of(queue, *[waits(k, j) for k, j in product(range(4), repeat=2)])
        self.assertEqual(told, [[x] for x in [0, 0, 0, 0,
                                              0, 0, 0, 0,
                                              1, 1, 0, 0,
                                              1, 1, 1, 0]])

    def test_nobody_waits_for_themselves(self):
        self.assertEqual(ask_of([1, 1], waits(0, 0), waits(1, 1)), [[0], [0]])

    def test_also_for_one_of_an_earlier_round(self):
        self.assertEqual(ask_of([1, 2, 3], waits(2, 0)), [[1]])

    def test_no_such_passenger(self):
        for k, j in ((2, 0), (0, 2), (2, 2), (1, 2), (LARGEST, 0), (0, LARGEST), (LARGEST, LARGEST)):
            self.assertEqual(ask_of([1, 2], waits(k, j)), [[-2]], (k, j))
        self.assertEqual(ask_of([], waits(0, 0)), [[-2]])


class Pairs(unittest.TestCase):
    def check(self, queue, number):
        self.assertEqual(ask_of(queue, pairs()), [[number]], queue)

    def test_nobody_and_one(self):
        self.check([], 0)
        self.check([1], 0)
        self.check([30], 0)

    def test_all_to_one_row(self):
        self.check([5] * 12, 66)

    def test_rows_that_rise(self):
        self.check([1, 2], 1)
        self.check(list(range(1, 13)), 66)
        self.check([28, 29, 30], 3)

    def test_rows_that_fall(self):
        self.check([2, 1], 0)
        self.check(list(range(12, 0, -1)), 0)

    def test_two_alike_beside_each_other(self):
        self.check([4, 4], 1)
        self.check([5, 4, 4, 3], 1)
        self.check([30, 30, 1], 1)

    def test_also_those_who_are_not_in_rounds_beside_each_other(self):
        self.check([1, 2, 3], 3)
        self.check([2, 1, 3, 3], 5)

    def test_ordinary(self):
        self.check(MIXED, 48)

    def test_as_many_as_waits_tells(self):
        for queue in product(range(1, 4), repeat=5):
            told = ask_of(queue, pairs(), *[waits(k, j) for k, j in product(range(5), repeat=2)])
            self.assertEqual(told[0], [sum(answer[0] for answer in told[1:])], queue)


class Chain(unittest.TestCase):
    def check(self, queue, first):
        self.assertEqual(ask_of(queue, chain()), [[len(first)] + first])

    def test_nobody(self):
        self.check([], [])

    def test_one(self):
        self.check([30], [0])

    def test_all_to_one_row(self):
        self.check([1] * 12, list(range(12)))

    def test_rows_that_rise(self):
        self.check(list(range(19, 31)), list(range(12)))

    def test_rows_that_fall(self):
        self.check(list(range(12, 0, -1)), [0])

    def test_two_alike_beside_each_other(self):
        self.check([5, 4, 4, 3], [1, 2])

    def test_of_like_chains_the_first(self):
        self.check([2, 1, 2, 1], [0, 2])
        self.check([1, 3, 2, 4], [0, 1, 3])
        self.check([1, 9, 3, 4, 2, 8], [0, 2, 3, 5])
        self.check([5, 6, 1, 2, 3, 7], [2, 3, 4, 5])

    def test_ordinary(self):
        self.check(MIXED, [0, 2, 4, 8, 10, 11])

    def test_after_a_move_by_the_new_numbers(self):
        self.assertEqual(ask_of([3, 1, 2], chain(), move(0, 2), chain()), [[2, 1, 2], [3], [3, 0, 1, 2]])


class Through(unittest.TestCase):
    def check(self, queue, told):
        self.assertEqual(ask_of(queue, *[through(k) for k in range(len(queue))]), told)

    def test_one(self):
        self.check([1], [[1, 0]])
        self.check([30], [[1, 0]])

    def test_all_to_one_row(self):
        self.check([5] * 12, [[12, 0]] * 12)

    def test_rows_that_rise(self):
        self.check(list(range(19, 31)), [[12, 0]] * 12)

    def test_rows_that_fall(self):
        self.check(list(range(12, 0, -1)), [[1, 0]] * 12)

    def test_two_alike_beside_each_other(self):
        self.check([5, 4, 4, 3], [[1, 1], [2, 0], [2, 0], [1, 1]])

    def test_one_ahead_of_all_in_the_last_row(self):
        self.check([30, 1, 2, 3], [[1, 2], [3, 0], [3, 0], [3, 0]])

    def test_also_who_is_only_in_a_longest_chain_that_is_not_the_first(self):
        self.assertEqual(ask_of([1, 3, 2, 4], chain(), through(2)), [[3, 0, 1, 3], [3, 0]])

    def test_both_those_ahead_and_those_behind_count(self):
        self.check([1, 2, 9, 3, 4], [[4, 0], [4, 0], [3, 1], [4, 0], [4, 0]])
        self.check([9, 5, 1, 6, 2, 3, 4], [[1, 3], [2, 2], [4, 0], [2, 2], [4, 0], [4, 0], [4, 0]])

    def test_ordinary(self):
        self.check(MIXED, [[6, 0], [6, 0], [6, 0], [6, 0], [6, 0], [4, 2], [6, 0], [5, 1], [6, 0], [6, 0], [6, 0],
                           [6, 0]])

    def test_no_such_passenger(self):
        for k in (3, 4, 12, LARGEST):
            self.assertEqual(ask_of([1, 2, 3], through(k)), [[-2]], k)
        self.assertEqual(ask_of([], through(0), through(LARGEST)), [[-2], [-2]])
        self.assertEqual(ask_of([1] * 12, through(11), through(12)), [[12, 0], [-2]])


class AskingChangesNothing(unittest.TestCase):
    def test_asked_again_the_same_is_answered(self):
        calls = [rounds(), round_of(3), who(2), wait(5), waits(5, 4), chain(), begin(31), out(12), through(5), pairs(),
                 best(), order(*range(11, -1, -1)), order(1), add(1, 0), add(30, 12), least(1), least(5), those_to(5),
                 the_queue(), the_state()]
        told = ask_of(MIXED, *calls, *calls)
        self.assertEqual(told[:len(calls)], told[len(calls):])


if __name__ == "__main__":
    unittest.main()
