"""Point 1: begin, come, out, move; and that what is refused changes nothing."""

import unittest

from boardingqueue.queue import answers
from support import LARGEST, add, ask, ask_of, begin, best, boarded, chain, come, least, look, move, order, out, pairs
from support import round_of, rounds, the_queue, the_state, those_to, through, wait, waits, who


class NotBegun(unittest.TestCase):
    others = [come(1), come(0), out(0), move(0, 0), rounds(), round_of(0), who(1), who(0), wait(0), waits(0, 0),
              chain(), come(LARGEST), out(LARGEST), move(LARGEST, LARGEST), waits(LARGEST, 0),
              through(0), through(LARGEST), pairs(), best(), order(), order(0), order(LARGEST), order(*range(14)),
              order(*[LARGEST] * 14), add(1, 0), add(0, 0), add(LARGEST, LARGEST), least(1), least(0), least(LARGEST),
              those_to(1), those_to(0), those_to(LARGEST), the_queue(), the_state()]

    def test_all_others_answer_not_begun(self):
        for call in self.others:
            self.assertEqual(ask([call]), [[-11]], call)

    def test_a_refused_begin_begins_nothing(self):
        for rows in (0, 31, LARGEST):
            self.assertEqual(ask([begin(rows)] + self.others), [[-22]] + [[-11]] * len(self.others))

    def test_behind_a_refused_order_the_next_call_is_read(self):
        for size in range(15):
            self.assertEqual(answers([13, size] + [0] * size + [0, 5, 18]), [1, -11, 1, 0, 2, 0, 5], size)
            self.assertEqual(answers([13, size] + [1] * size + [18]), [1, -11, 1, -11], size)

    def test_what_came_before_begin_is_not_there_after(self):
        self.assertEqual(ask([come(1), begin(3), rounds(), come(1)]), [[-11], [0], [0], [0]])


class Begin(unittest.TestCase):
    def test_rows_1_to_30_are_taken(self):
        for rows in range(1, 31):
            told = ask([begin(rows), come(rows), come(rows + 1), come(1), come(0)])
            self.assertEqual(told, [[0], [0], [-22], [1], [-22]], rows)

    def test_other_rows_are_refused(self):
        for rows in (0, 31, 32, 100, LARGEST):
            self.assertEqual(ask([begin(rows)]), [[-22]], rows)

    def test_nobody_is_there(self):
        told = ask_of([], rounds(), chain(), who(1), out(0), round_of(0), wait(0))
        self.assertEqual(told, [[0], [0], [0], [-2], [-2], [-2]])

    def test_begin_again_after_passengers_have_come(self):
        told = ask_of([3, 1, 2], begin(2), rounds(), chain(), round_of(0), come(3), come(2), rounds(), rows=5)
        self.assertEqual(told, [[0], [0], [0], [-2], [-22], [0], [1, 1]])

    def test_begin_again_with_more_rows(self):
        self.assertEqual(ask_of([1], come(6), begin(30), come(30), rows=5), [[-22], [0], [0]])

    def test_begin_again_makes_room_for_twelve(self):
        told = ask_of([1] * 12, come(1), begin(1), *[come(1)] * 13, rows=1)
        self.assertEqual(told, [[-28], [0]] + [[k] for k in range(12)] + [[-28]])


class Come(unittest.TestCase):
    def test_answers_their_number(self):
        self.assertEqual(ask(boarded([4, 4, 1, 30])), [[0], [0], [1], [2], [3]])

    def test_they_stand_behind_all(self):
        self.assertEqual(ask_of([1, 2], come(1), waits(2, 0), waits(2, 1), waits(0, 2)), [[2], [1], [0], [0]])

    def test_rows_that_are_not_there(self):
        for row in (0, 6, 30, 31, LARGEST):
            self.assertEqual(ask_of([2], come(row), rows=5), [[-22]], row)

    def test_the_last_row_of_few(self):
        self.assertEqual(ask_of([], come(1), come(2), rounds(), rows=1), [[0], [-22], [1, 1]])

    def test_a_twelfth_and_a_thirteenth(self):
        self.assertEqual(ask_of([1] * 11, come(2), come(2), come(1)), [[11], [-28], [-28]])

    def test_no_such_row_comes_before_too_many(self):
        for row in (0, 6, LARGEST):
            self.assertEqual(ask_of([1] * 12, come(row), rows=5), [[-22]], row)

    def test_one_out_makes_room_for_one(self):
        self.assertEqual(ask_of([1] * 12, out(3), come(1), come(1)), [[11], [11], [-28]])


class Out(unittest.TestCase):
    def test_answers_how_many_there_are(self):
        self.assertEqual(ask_of([1, 2, 3], out(0), out(0), out(0), out(0)), [[2], [1], [0], [-2]])

    def test_those_behind_are_numbered_one_less(self):
        for k in range(5):
            queue = [4, 2, 5, 1, 3]
            left = queue[:k] + queue[k + 1:]
            self.assertEqual(ask_of(queue, out(k), *look(4, 5), rows=5)[1:], ask_of(left, *look(4, 5), rows=5), k)

    def test_no_such_passenger(self):
        for k in (3, 4, 12, LARGEST):
            self.assertEqual(ask_of([1, 2, 3], out(k)), [[-2]], k)
        self.assertEqual(ask_of([], out(0)), [[-2]])

    def test_the_number_is_free_for_the_next(self):
        self.assertEqual(ask_of([1, 2, 3], out(1), come(1), rounds()), [[2], [2], [2, 1, 2, 2]])


class Move(unittest.TestCase):
    def test_every_one_to_every_place(self):
        queue = [4, 2, 5, 1, 3]
        for k in range(5):
            for place in range(5):
                moved = queue[:k] + queue[k + 1:]
                moved.insert(place, queue[k])
                told = ask_of(queue, move(k, place), *look(5, 5), rows=5)
                self.assertEqual(told[1:], ask_of(moved, *look(5, 5), rows=5), (k, place))
                self.assertEqual(told[0], told[1][:1], (k, place))

    def test_answers_the_rounds_it_takes_now(self):
        told = ask_of([1, 2, 3], move(2, 0), move(2, 1), move(0, 2), move(1, 1))
        self.assertEqual(told, [[2], [1], [2], [2]])

    def test_one_alone_stays(self):
        self.assertEqual(ask_of([7], move(0, 0), move(0, 1), move(1, 0)), [[1], [-22], [-2]])

    def test_no_such_passenger(self):
        for k in (3, 4, LARGEST):
            self.assertEqual(ask_of([1, 2, 3], move(k, 0)), [[-2]], k)

    def test_no_such_place(self):
        for place in (3, 4, 12, LARGEST):
            self.assertEqual(ask_of([1, 2, 3], move(0, place)), [[-22]], place)

    def test_no_such_passenger_comes_before_no_such_place(self):
        for far in (3, LARGEST):
            self.assertEqual(ask_of([1, 2, 3], move(far, far)), [[-2]])
        self.assertEqual(ask_of([], move(0, 0)), [[-2]])

    def test_twelve_to_the_ends(self):
        told = ask_of(list(range(1, 13)), move(11, 0), move(0, 11), move(0, 11), move(11, 12), move(12, 11))
        self.assertEqual(told, [[11], [12], [11], [-22], [-2]])


class Refused(unittest.TestCase):
    """The object is as it was after each refusal."""

    def check(self, queue, refused, number):
        for call in refused:
            told = ask_of(queue, call, *look(len(queue), 5), rows=5)
            self.assertEqual(told[0], [number], call)
            self.assertEqual(told[1:], ask_of(queue, *look(len(queue), 5), rows=5), call)

    def test_with_some(self):
        told_by_number = {
            -22: [begin(0), begin(31), begin(LARGEST), come(0), come(6), come(LARGEST), move(0, 4), move(3, LARGEST),
                  order(), order(0, 1, 2), order(0, 1, 2, 2), order(0, 1, 2, 4), order(3, 2, 1, LARGEST),
                  order(0, 1, 2, 3, 4), order(0, 1, 2, 3, 3), order(*range(14)), add(0, 0), add(6, 0), add(1, 5),
                  add(LARGEST, 0), add(5, LARGEST), add(0, 5), least(0), least(6), least(LARGEST), those_to(0),
                  those_to(6), those_to(LARGEST)],
            -2: [out(4), out(LARGEST), move(4, 0), move(LARGEST, 0), move(4, 4), round_of(4), round_of(LARGEST),
                 wait(4), wait(LARGEST), waits(4, 0), waits(0, 4), waits(LARGEST, LARGEST), through(4),
                 through(LARGEST)],
            -33: [wait(0), wait(1)],
        }
        for number, refused in told_by_number.items():
            self.check([3, 1, 4, 2], refused, number)

    def test_with_twelve(self):
        queue = [3, 1, 4, 1, 5, 2, 5, 3, 5, 2, 4, 1]
        self.check(queue, [come(1), come(5)], -28)
        self.check(queue, [come(0), come(6), move(0, 12), begin(31), order(*range(11)), order(*range(13)),
                           order(*range(1, 13)), order(0, *range(11)), order(0, *range(12)), add(6, 12), add(0, 0),
                           add(1, 13), least(0), least(6), those_to(0), those_to(6)], -22)
        self.check(queue, [out(12), move(12, 0), round_of(12), wait(12), waits(12, 0), waits(0, 12), through(12)], -2)

    def test_with_nobody(self):
        self.check([], [begin(31), come(6), order(0), order(LARGEST), order(*range(14)), add(0, 0), add(6, 0),
                        add(1, 1), least(0), least(6), those_to(0), those_to(6)], -22)
        self.check([], [out(0), move(0, 0), round_of(0), wait(0), waits(0, 0), through(0)], -2)


if __name__ == "__main__":
    unittest.main()
