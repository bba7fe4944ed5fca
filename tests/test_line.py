"""The interface: how calls stand in the list and answers in what is given back, and long lines."""

import random
import unittest

from boardingqueue.queue import answers
from support import LARGEST, Model, ask, begin, chain, come, move, rounds, who


class Untouchable(list):
    """A list that takes no change, not for a while either."""

    def refuse(self, *args, **kwargs):
        raise AssertionError("the list that was handed in is changed")

    append = extend = insert = pop = remove = clear = sort = reverse = refuse
    __setitem__ = __delitem__ = __iadd__ = __imul__ = refuse


WHOLE = [0, 5, 1, 3, 1, 1, 1, 4, 3, 0, 2, 4, 5, 1, 6, 1, 7, 1, 8, 2, 0, 9, 2, 0, 1, 6, 6, 9, 0, 31, 4]
WHOLE_ANSWERS = [1, 0, 1, 0, 1, 1, 1, 2, 1, 2, 4, 2, 1, 2, 2, 1, 2, 2, 1, 0, 1, 0, 1, 1, 3, 2, 0, 1, 1, 2, 1, -22,
                 1, 0, 1, -22, 3, 1, 1, 1]


class Interface(unittest.TestCase):
    def test_each_answer_stands_behind_its_count(self):
        self.assertEqual(answers(list(WHOLE)), WHOLE_ANSWERS)

    def test_a_refusal_stands_alone(self):
        self.assertEqual(answers([4, 0, 0, 9]), [1, -11, 1, -22, 1, -11])

    def test_one_call(self):
        self.assertEqual(answers([0, 30]), [1, 0])
        self.assertEqual(answers([9]), [1, -11])

    def test_gives_back_a_list_of_whole_numbers(self):
        given = answers(list(WHOLE))
        self.assertIs(type(given), list)
        self.assertEqual({type(number) for number in given}, {int})

    def test_what_is_handed_in_is_not_changed(self):
        handed = list(WHOLE)
        answers(handed)
        self.assertEqual(handed, WHOLE)
        self.assertEqual(answers(Untouchable(WHOLE)), WHOLE_ANSWERS)

    def test_the_same_list_again_gives_the_same(self):
        handed = list(WHOLE)
        first = answers(handed)
        first_copy = list(first)
        first.clear()
        self.assertEqual(answers(handed), first_copy)

    def test_nothing_is_kept_from_one_time_to_the_next(self):
        answers([0, 30, 1, 1, 1, 2])
        self.assertEqual(answers([4]), [1, -11])
        self.assertEqual(answers([0, 3, 4]), [1, 0, 1, 0])


class LongLines(unittest.TestCase):
    def test_400_calls(self):
        calls = [begin(30)] + [come(row) for row in range(1, 13)] + [move(0, 11)] * 12 + [chain()] * 375
        self.assertEqual(len(calls), 400)
        told = ask(calls)
        moved = [11, 10, 9, 8, 7, 6, 7, 8, 9, 10, 11, 12]
        self.assertEqual(told[13:25], [[longest] for longest in moved])
        self.assertEqual(told[25:], [[12] + list(range(12))] * 375)

    def test_400_calls_before_begin(self):
        self.assertEqual(ask([move(LARGEST, LARGEST)] * 400), [[-11]] * 400)

    def test_400_calls_come(self):
        told = ask([begin(1)] + [come(1)] * 398 + [rounds()])
        self.assertEqual(told[1:13], [[k] for k in range(12)])
        self.assertEqual(told[13:399], [[-28]] * 386)
        self.assertEqual(told[399], [12] + list(range(1, 13)))

    def test_400_calls_begin(self):
        self.assertEqual(ask([begin(30), come(1)] * 200), [[0]] * 400)

    def test_who_asks_for_large_rounds(self):
        self.assertEqual(ask([begin(30), come(1)] + [who(LARGEST)] * 398)[2:], [[0]] * 398)


def some_call(chance, size, rows):
    """A call that is mostly taken, and now and then refused."""
    def number(limit):
        if chance.random() < 0.04:
            return chance.choice([limit, limit + 1, 12, 13, 30, 31, 1 << 31, LARGEST])
        return chance.randrange(max(limit, 1))

    kind = chance.choices(range(10), weights=[1, 24, 6, 12, 8, 8, 8, 8, 8, 8])[0]
    if kind == 0:
        return [0, chance.choice([0, 1, 2, 3, 5, 12, 29, 30, 31, LARGEST])]
    if kind == 1:
        return [1, chance.choice([0, rows + 1, LARGEST]) if chance.random() < 0.08 else chance.randint(1, rows)]
    if kind in (3, 8):
        return [kind, number(size), number(size)]
    if kind == 6:
        return [6, number(size + 2)]
    return [kind] if kind in (4, 9) else [kind, number(size)]


class AgainstTheModel(unittest.TestCase):
    def test_many_lines(self):
        chance = random.Random(20)
        for turn in range(60):
            model = Model()
            calls = []
            expected = []
            for step in range(chance.choice([1, 20, 100, 400])):
                call = some_call(chance, len(model.queue), model.rows or 1)
                if step == 0 and turn % 6:
                    call = begin(chance.choice([1, 2, 4, 12, 30]))
                calls.append(call)
                expected.append(model.answer(call))
            self.assertEqual(ask(calls), expected, calls)


if __name__ == "__main__":
    unittest.main()
