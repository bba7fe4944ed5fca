"""What holds: a, b, d and e, over many queues."""

import random
import unittest
from itertools import product

from support import ask, ask_of, begin, boarded, chain, come, look, model_chain, model_rounds, move, out, rounds
from support import waits, who


def small_queues():
    """All queues of at most five passengers to four rows."""
    return [list(queue) for size in range(6) for queue in product(range(1, 5), repeat=size)]


def large_queues():
    chance = random.Random(7)
    return [[chance.randint(1, most) for k in range(size)]
            for size in range(6, 13) for most in (2, 5, 12, 30) for turn in range(8)]


def fewest_falling_sets(queue):
    """Into how few sets a queue can be put in each of which rows fall, by a look at all ways."""
    ways = {()}
    for row in queue:
        grown = set()
        for lasts in ways:
            grown.add(tuple(sorted(lasts + (row,))))
            for at, last in enumerate(lasts):
                if row < last:
                    grown.add(tuple(sorted(lasts[:at] + (row,) + lasts[at + 1:])))
        ways = grown
    return min(len(lasts) for lasts in ways)


class AsManyRoundsAsTheLongestChainHas(unittest.TestCase):
    def test_rounds_and_chain(self):
        for queue in small_queues() + large_queues():
            told, first = ask_of(queue, rounds(), chain())
            self.assertEqual(told[0], first[0], queue)
            self.assertEqual(told[0], max(told[1:], default=0), queue)
            self.assertEqual(told[1:], model_rounds(queue), queue)
            self.assertEqual(first[1:], model_chain(queue), queue)

    def test_each_in_the_chain_waits_for_the_one_before(self):
        for queue in large_queues():
            first = ask_of(queue, chain())[0][1:]
            told = ask_of(queue, *[waits(b, a) for a, b in zip(first, first[1:])])
            self.assertEqual(told, [[1]] * (len(first) - 1), queue)


class FallingSets(unittest.TestCase):
    def test_no_fewer_sets_than_rounds(self):
        for queue in small_queues() + [queue for queue in large_queues() if len(queue) < 10]:
            self.assertEqual(ask_of(queue, rounds())[0][0], fewest_falling_sets(queue), queue)

    def test_rows_fall_in_each_round_and_all_sit_once(self):
        for queue in small_queues() + large_queues():
            needed = ask_of(queue, rounds())[0][0]
            sat = []
            for told in ask_of(queue, *[who(t) for t in range(1, needed + 1)]):
                these = told[1:]
                self.assertEqual(told[0], len(these), queue)
                self.assertGreater(len(these), 0, queue)
                self.assertEqual(these, sorted(these), queue)
                self.assertTrue(all(queue[b] < queue[a] for a, b in zip(these, these[1:])), queue)
                sat += these
            self.assertEqual(sorted(sat), list(range(len(queue))), queue)


class OneMore(unittest.TestCase):
    def test_behind_all_changes_nobodys_round(self):
        for queue in small_queues():
            for row in range(1, 6):
                before, number, after = ask_of(queue, rounds(), come(row), rounds())
                self.assertEqual(number, [len(queue)])
                self.assertEqual(after[1:-1], before[1:], queue)
                self.assertIn(after[0] - before[0], (0, 1), queue)

    def test_anywhere_makes_no_fewer_rounds_and_one_more_at_most(self):
        for queue in [queue for queue in small_queues() if len(queue) < 5]:
            size = len(queue)
            for place in range(size + 1):
                before, number, moved, after = ask_of(queue, rounds(), come(2), move(size, place), rounds())
                self.assertEqual(moved, after[:1], queue)
                self.assertIn(after[0] - before[0], (0, 1), queue)
                self.assertEqual(after[1:place + 1], before[1:place + 1], queue)

    def test_out_undoes_what_one_more_did(self):
        for queue in large_queues():
            if len(queue) < 12:
                before, number, moved, left, after = ask_of(
                    queue, rounds(), come(1), move(len(queue), 0), out(0), rounds())
                self.assertEqual((left, after), ([len(queue)], before), queue)


class WhatIsRefusedChangesNothing(unittest.TestCase):
    def test_a_line_without_its_refused_calls_answers_the_same(self):
        chance = random.Random(3)
        for turn in range(60):
            calls = boarded([chance.randint(1, 6) for k in range(chance.randint(0, 7))], 6)
            for step in range(100):
                small = [chance.randint(0, 13) for number in range(2)]
                calls.append(chance.choice([
                    begin(chance.choice([0, 31, 99])), come(small[0]), out(small[0]), move(*small), waits(*small)]))
            told = ask(calls)
            self.assertTrue(any(answer[0] < 0 for answer in told))
            taken = [at for at in range(len(calls)) if told[at][0] >= 0]
            self.assertEqual(ask([calls[at] for at in taken]), [told[at] for at in taken], calls)
            end = look(0, 6)
            self.assertEqual(ask(calls + end)[-len(end):], ask([calls[at] for at in taken] + end)[-len(end):])


if __name__ == "__main__":
    unittest.main()
