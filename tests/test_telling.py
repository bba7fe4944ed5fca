"""Point 1: queue, rows, state."""

import unittest

from support import LARGEST, add, ask, ask_of, begin, best, chain, come, least, move, order, out, the_queue, the_state
from support import those_to, wait


def told_after(queue, *calls, rows=30, asked=()):
    """What queue, state and rows (of the rows asked) tell after such calls."""
    told = ask_of(queue, *calls, the_queue(), the_state(), *[those_to(row) for row in asked], rows=rows)
    return told[len(calls):]


class Queue(unittest.TestCase):
    def test_nobody(self):
        self.assertEqual(ask_of([], the_queue()), [[0]])

    def test_one(self):
        self.assertEqual(ask_of([1], the_queue()), [[1, 1]])
        self.assertEqual(ask_of([30], the_queue()), [[1, 30]])

    def test_of_each_the_row_as_they_came(self):
        for queue in ([3, 1, 2], [1, 2, 3], [3, 2, 1], [4, 4], [7] * 12, list(range(30, 18, -1))):
            self.assertEqual(ask_of(queue, the_queue()), [[len(queue)] + queue])


class Rows(unittest.TestCase):
    def test_nobody(self):
        self.assertEqual(ask_of([], those_to(1), those_to(30)), [[0], [0]])

    def test_nobody_of_several(self):
        self.assertEqual(ask_of([2, 4], those_to(1), those_to(3), those_to(5), rows=5), [[0]] * 3)

    def test_these_in_the_order_of_the_queue(self):
        told = ask_of([2, 1, 2, 3, 3, 2], *[those_to(row) for row in (1, 2, 3)])
        self.assertEqual(told, [[1, 1], [3, 0, 2, 5], [2, 3, 4]])

    def test_all_to_one_row(self):
        self.assertEqual(ask_of([5] * 12, those_to(5), those_to(4)), [[12] + list(range(12)), [0]])

    def test_the_last_row(self):
        for last in (1, 5, 29, 30):
            self.assertEqual(ask_of([last], those_to(last), those_to(last + 1), rows=last), [[1, 0], [-22]], last)

    def test_no_such_row(self):
        for row in (0, 6, 30, 31, LARGEST):
            self.assertEqual(ask_of([1, 5], those_to(row), rows=5), [[-22]], row)
            self.assertEqual(ask_of([], those_to(row), rows=5), [[-22]], row)


class State(unittest.TestCase):
    def test_passengers_then_rows(self):
        self.assertEqual(ask_of([], the_state(), rows=1), [[0, 1]])
        self.assertEqual(ask_of([2, 2, 1], the_state(), rows=30), [[3, 30]])
        self.assertEqual(ask_of([1] * 12, the_state(), rows=7), [[12, 7]])

    def test_the_rows_are_those_of_begin_not_those_that_are_gone_to(self):
        self.assertEqual(ask_of([3], the_state(), rows=9), [[1, 9]])


class AfterChanges(unittest.TestCase):
    def test_come(self):
        told = told_after([3, 1], come(3), rows=5, asked=(1, 3))
        self.assertEqual(told, [[3, 3, 1, 3], [3, 5], [1, 1], [2, 0, 2]])

    def test_out(self):
        told = told_after([3, 1, 2, 3], out(1), rows=5, asked=(1, 2, 3))
        self.assertEqual(told, [[3, 3, 2, 3], [3, 5], [0], [1, 1], [2, 0, 2]])
        self.assertEqual(told_after([4], out(0), asked=(4,)), [[0], [0, 30], [0]])

    def test_move(self):
        told = told_after([3, 1, 2, 3], move(0, 2), rows=5, asked=(1, 2, 3))
        self.assertEqual(told, [[4, 1, 2, 3, 3], [4, 5], [1, 0], [1, 1], [2, 2, 3]])
        self.assertEqual(told_after([3, 1, 2], move(2, 0), asked=(2,)), [[3, 2, 3, 1], [3, 30], [1, 0]])

    def test_begin_again(self):
        self.assertEqual(told_after([3, 1], begin(2), asked=(1, 2, 3)), [[0], [0, 2], [0], [0], [-22]])
        self.assertEqual(told_after([3, 1], begin(4), come(4), rows=3, asked=(4,)), [[1, 4], [1, 4], [1, 0]])

    def test_refusals(self):
        refused = [begin(0), begin(31), begin(LARGEST), come(0), come(6), come(LARGEST), out(3), out(LARGEST),
                   move(3, 0), move(0, 3), wait(0), order(), order(0, 1, 1), order(0, 1, 2, 3), add(0, 0), add(6, 0),
                   add(1, 4), least(0), least(6), those_to(0), those_to(6)]
        for call in refused:
            told = ask_of([3, 1, 3], call, the_queue(), the_state(), those_to(3), rows=5)
            self.assertLess(told[0][0], 0, call)
            self.assertEqual(told[1:], [[3, 3, 1, 3], [3, 5], [2, 0, 2]], call)

    def test_a_thirteenth_is_refused(self):
        told = told_after([2] * 12, come(1), rows=2, asked=(1, 2))
        self.assertEqual(told, [[12] + [2] * 12, [12, 2], [0], [12] + list(range(12))])

    def test_what_is_only_asked(self):
        asked = [order(2, 1, 0), add(1, 0), add(5, 3), least(1), least(5), best(), chain()]
        for call in asked:
            told = ask_of([3, 1, 3], call, the_queue(), the_state(), those_to(3), rows=5)
            self.assertGreaterEqual(told[0][0], 0, call)
            self.assertEqual(told[1:], [[3, 3, 1, 3], [3, 5], [2, 0, 2]], call)

    def test_a_refused_begin_ahead_of_any_leaves_nothing_to_tell(self):
        self.assertEqual(ask([begin(31), the_queue(), the_state(), those_to(1)]), [[-22], [-11], [-11], [-11]])


if __name__ == "__main__":
    unittest.main()
