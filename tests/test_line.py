"""The interface: how calls stand in the list and answers in what is given back, and long lines."""

import random
import unittest

from boardingqueue.queue import answers
from support import LARGEST, NAMES, Model, add, ask, begin, best, chain, come, least, move, order, out, pairs, round_of
from support import rounds, the_queue, the_state, those_to, through, wait, waits, who


class Untouchable(list):
    """A list that takes no change, not for a while either."""

    def refuse(self, *args, **kwargs):
        raise AssertionError("the list that was handed in is changed")

    append = extend = insert = pop = remove = clear = sort = reverse = refuse
    __setitem__ = __delitem__ = __iadd__ = __imul__ = refuse


WHOLE = [0, 5, 1, 3, 1, 1, 1, 4, 3, 0, 2, 4, 5, 1, 6, 1, 7, 1, 8, 2, 0, 9,
         10, 2, 11, 12, 13, 3, 2, 0, 1, 13, 2, 0, 1, 14, 5, 0, 15, 2, 16, 4, 17, 18,
         2, 0, 1, 6, 6, 9, 0, 31, 4]
WHOLE_ANSWERS = [1, 0, 1, 0, 1, 1, 1, 2, 1, 2, 4, 2, 1, 2, 2, 1, 2, 2, 1, 0, 1, 0, 1, 1, 3, 2, 0, 1,
                 2, 2, 0, 1, 2, 4, 1, 1, 2, 0, 4, 2, 1, 1, 2, 1, -22, 2, 2, 2, 2, 0, 2, 2, 1, 1, 4, 3, 1, 4, 3, 2, 3, 5,
                 1, 2, 1, -22, 1, 0, 1, -22, 3, 1, 1, 1]


class Interface(unittest.TestCase):
    def test_each_answer_stands_behind_its_count(self):
        self.assertEqual(answers(list(WHOLE)), WHOLE_ANSWERS)

    def test_a_refusal_stands_alone(self):
        self.assertEqual(answers([4, 0, 0, 9]), [1, -11, 1, -22, 1, -11])

    def test_one_call(self):
        self.assertEqual(answers([0, 30]), [1, 0])
        self.assertEqual(answers([9]), [1, -11])

    def test_gives_back_a_list_of_whole_numbers(self):
        given = answers(list(WHOLE))
        self.assertIs(type(given), list)
        self.assertEqual({type(number) for number in given}, {int})

    def test_what_is_handed_in_is_not_changed(self):
        handed = list(WHOLE)
        answers(handed)
        self.assertEqual(handed, WHOLE)
        self.assertEqual(answers(Untouchable(WHOLE)), WHOLE_ANSWERS)

    def test_the_same_list_again_gives_the_same(self):
        handed = list(WHOLE)
        first = answers(handed)
        first_copy = list(first)
        first.clear()
        self.assertEqual(answers(handed), first_copy)

    def test_nothing_is_kept_from_one_time_to_the_next(self):
        answers([0, 30, 1, 1, 1, 2])
        self.assertEqual(answers([4]), [1, -11])
        self.assertEqual(answers([0, 3, 4]), [1, 0, 1, 0])


class LongLines(unittest.TestCase):
    def test_400_calls(self):
        calls = [begin(30)] + [come(row) for row in range(1, 13)] + [move(0, 11)] * 12 + [chain()] * 375
        self.assertEqual(len(calls), 400)
        told = ask(calls)
        moved = [11, 10, 9, 8, 7, 6, 7, 8, 9, 10, 11, 12]
        self.assertEqual(told[13:25], [[longest] for longest in moved])
        self.assertEqual(told[25:], [[12] + list(range(12))] * 375)

    def test_400_calls_before_begin(self):
        self.assertEqual(ask([move(LARGEST, LARGEST)] * 400), [[-11]] * 400)

    def test_400_calls_come(self):
        told = ask([begin(1)] + [come(1)] * 398 + [rounds()])
        self.assertEqual(told[1:13], [[k] for k in range(12)])
        self.assertEqual(told[13:399], [[-28]] * 386)
        self.assertEqual(told[399], [12] + list(range(1, 13)))

    def test_400_calls_begin(self):
        self.assertEqual(ask([begin(30), come(1)] * 200), [[0]] * 400)

    def test_400_calls_in_which_all_nineteen_stand_mixed(self):
        turn = [begin(30), come(5), come(3), come(5), come(4), move(0, 2), rounds(), round_of(3), who(2), wait(3),
                waits(3, 2), chain(), through(1), pairs(), best(), order(3, 2, 1, 0), order(0, 1), add(1, 0), least(3),
                those_to(5), the_queue(), the_state(), out(1), order(0, 1, 2), begin(0)]
        told = [[0], [0], [1], [2], [3], [3], [3, 1, 2, 3, 2], [2], [2, 1, 3], [0],
                [0], [3, 0, 1, 2], [3, 0], [4], [2, 1, 3, 0, 2], [3, 1, 2, 3, 1], [-22], [4, 3], [2, 3],
                [2, 1, 2], [4, 3, 5, 5, 4], [4, 30], [3], [2, 1, 2, 2], [-22]]
        self.assertEqual({call[0] for call in turn}, set(range(len(NAMES))))
        self.assertEqual(len(turn * 16), 400)
        self.assertEqual(ask(turn * 16), told * 16)

    def test_6100_numbers(self):
        calls = [begin(30)] + [come(row) for row in range(1, 13)]
        calls += [order(*range(12, -1, -1), 0)] * 379 + [order(*range(7))]
        calls.append(the_state())
        self.assertEqual(sum(len(call) for call in calls), 6100)
        self.assertEqual(ask(calls)[13:], [[-22]] * 380 + [[12, 30]])

    def test_the_largest_arguments_everywhere(self):
        far = [come(LARGEST), out(LARGEST), move(LARGEST, LARGEST), move(0, LARGEST), round_of(LARGEST), who(LARGEST),
               wait(LARGEST), waits(LARGEST, 0), waits(0, LARGEST), through(LARGEST), order(LARGEST),
               order(*[LARGEST] * 14), add(LARGEST, 0), add(1, LARGEST), least(LARGEST), those_to(LARGEST),
               begin(LARGEST)]
        told = [[-22], [-2], [-2], [-22], [-2], [0], [-2], [-2], [-2], [-2], [-22], [-22], [-22], [-22], [-22], [-22],
                [-22]]
        self.assertEqual(ask([begin(30), come(30)] + far + [the_queue(), the_state()])[2:], told + [[1, 30], [1, 30]])

    def test_who_asks_for_large_rounds(self):
        self.assertEqual(ask([begin(30), come(1)] + [who(LARGEST)] * 398)[2:], [[0]] * 398)


def some_call(chance, size, rows):
    """A call that is mostly taken, and now and then refused."""
    def number(limit):
        if chance.random() < 0.04:
            return chance.choice([limit, limit + 1, 12, 13, 30, 31, 1 << 31, LARGEST])
        return chance.randrange(max(limit, 1))

    def row():
        return chance.choice([0, rows + 1, LARGEST]) if chance.random() < 0.08 else chance.randint(1, rows)

    def numbers():
        told = chance.sample(range(size), size)
        for fault in range(chance.choice([0, 0, 0, 1, 2])):
            at = chance.randrange(len(told) + 1)
            told[at:at + chance.randrange(2)] = [number(size + 1)] * chance.randrange(2)
        return told[:14]

    kind = chance.choices(range(19), weights=[1, 40, 8, 12] + [6] * 15)[0]
    arguments = {
        0: lambda: [chance.choice([0, 1, 2, 3, 5, 12, 29, 30, 31, LARGEST])],
        1: lambda: [row()],
        3: lambda: [number(size), number(size)],
        6: lambda: [number(size + 2)],
        8: lambda: [number(size), number(size)],
        13: lambda: order(*numbers())[1:],
        14: lambda: [row(), number(size + 1)],
        15: lambda: [row()],
        16: lambda: [row()],
    }
    if kind in (4, 9, 11, 12, 17, 18):
        return [kind]
    return [kind] + arguments.get(kind, lambda: [number(size)])()


class AgainstTheModel(unittest.TestCase):
    def test_many_lines(self):
        chance = random.Random(20)
        for turn in range(60):
            model = Model()
            calls = []
            expected = []
            for step in range(chance.choice([1, 20, 100, 400])):
                call = some_call(chance, len(model.queue), model.rows or 1)
                if step == 0 and turn % 6:
                    call = begin(chance.choice([1, 2, 4, 12, 30]))
                calls.append(call)
                expected.append(model.answer(call))
            self.assertEqual(ask(calls), expected, calls)


if __name__ == "__main__":
    unittest.main()
