"""What holds: a to e, over many queues; and through, by a look at all chains."""

import random
import unittest
from itertools import permutations, product

from support import add, ask, ask_of, begin, best, boarded, chain, come, least, look, model_best, model_chain
from support import model_chains, model_rounds, move, order, out, pairs, rounds, the_queue, those_to, through, waits
from support import who


def small_queues():
    """All queues of at most five passengers to four rows."""
    return [list(queue) for size in range(6) for queue in product(range(1, 5), repeat=size)]


def large_queues():
    chance = random.Random(7)
    return [[chance.randint(1, most) for k in range(size)]
            for size in range(6, 13) for most in (2, 5, 12, 30) for turn in range(8)]


def fewest_falling_sets(queue):
    """Into how few sets a queue can be put in each of which rows fall, by a look at all ways."""
    ways = {()}
    for row in queue:
        grown = set()
        for lasts in ways:
            grown.add(tuple(sorted(lasts + (row,))))
            for at, last in enumerate(lasts):
                if row < last:
                    grown.add(tuple(sorted(lasts[:at] + (row,) + lasts[at + 1:])))
        ways = grown
    return min(len(lasts) for lasts in ways)


class AsManyRoundsAsTheLongestChainHas(unittest.TestCase):
    def test_rounds_and_chain(self):
        for queue in small_queues() + large_queues():
            told, first = ask_of(queue, rounds(), chain())
            self.assertEqual(told[0], first[0], queue)
            self.assertEqual(told[0], max(told[1:], default=0), queue)
            self.assertEqual(told[1:], model_rounds(queue), queue)
            self.assertEqual(first[1:], model_chain(queue), queue)

    def test_each_in_the_chain_waits_for_the_one_before(self):
        for queue in large_queues():
            first = ask_of(queue, chain())[0][1:]
            told = ask_of(queue, *[waits(b, a) for a, b in zip(first, first[1:])])
            self.assertEqual(told, [[1]] * (len(first) - 1), queue)


class FallingSets(unittest.TestCase):
    def test_no_fewer_sets_than_rounds(self):
        for queue in small_queues() + [queue for queue in large_queues() if len(queue) < 10]:
            self.assertEqual(ask_of(queue, rounds())[0][0], fewest_falling_sets(queue), queue)

    def test_rows_fall_in_each_round_and_all_sit_once(self):
        for queue in small_queues() + large_queues():
            needed = ask_of(queue, rounds())[0][0]
            sat = []
            for told in ask_of(queue, *[who(t) for t in range(1, needed + 1)]):
                these = told[1:]
                self.assertEqual(told[0], len(these), queue)
                self.assertGreater(len(these), 0, queue)
                self.assertEqual(these, sorted(these), queue)
                self.assertTrue(all(queue[b] < queue[a] for a, b in zip(these, these[1:])), queue)
                sat += these
            self.assertEqual(sorted(sat), list(range(len(queue))), queue)


class FewestRounds(unittest.TestCase):
    def short_queues(self):
        """All of at most four passengers, some of five and six: so few that all their orders can be tried."""
        chance = random.Random(11)
        return ([queue for queue in small_queues() if len(queue) < 5]
                + [list(queue) for queue in product((1, 2, 30), repeat=5)]
                + [[chance.randint(1, most) for k in range(6)] for most in (2, 3, 6, 30) for turn in range(2)])

    def test_no_order_takes_fewer_than_best_tells(self):
        for queue in self.short_queues():
            fewest, most = len(queue), 0
            tries = list(permutations(range(len(queue))))
            for start in range(0, len(tries), 390):
                some = tries[start:start + 390]
                for numbers, told in zip(some, ask_of(queue, *[order(*numbers) for numbers in some])):
                    expected = model_rounds([queue[k] for k in numbers])
                    self.assertEqual(told, [max(expected, default=0)] + expected, (queue, numbers))
                    fewest, most = min(fewest, told[0]), max(most, told[0])
            self.assertEqual(ask_of(queue, best())[0][0], fewest, queue)
            self.assertLessEqual(most, len(queue), queue)

    def test_just_as_many_as_go_to_one_row(self):
        for queue in small_queues() + large_queues():
            told = ask_of(queue, best(), *[those_to(row) for row in range(1, 31)])
            self.assertEqual(told[0][0], max(answer[0] for answer in told[1:]), queue)

    def test_by_the_best_order_just_so_many(self):
        for queue in small_queues() + large_queues():
            told = ask_of(queue, best())[0]
            self.assertEqual(told, model_best(queue), queue)
            by_order, left = ask_of(queue, order(*told[1:]), the_queue())
            self.assertEqual(by_order[0], told[0], queue)
            self.assertEqual(left[1:], queue)
            self.assertEqual(ask_of([queue[k] for k in told[1:]], rounds())[0], by_order, queue)

    def test_in_no_order_fewer_than_best_and_in_none_more_than_people(self):
        chance = random.Random(5)
        for queue in large_queues():
            size = len(queue)
            tries = [order(*chance.sample(range(size), size)) for turn in range(30)]
            told = ask_of(queue, best(), rounds(), *tries)
            for answer in told[1:]:
                self.assertTrue(told[0][0] <= answer[0] <= size, queue)


class Through(unittest.TestCase):
    def test_by_a_look_at_all_chains(self):
        for queue in small_queues() + large_queues():
            chains = model_chains(queue)
            longest = max([len(one) for one in chains], default=0)
            told = ask_of(queue, *[through(k) for k in range(len(queue))])
            for k, answer in enumerate(told):
                most = max(len(one) for one in chains if k in one)
                self.assertEqual(answer, [most, longest - most], (queue, k))
                in_a_longest = any(k in one for one in chains if len(one) == longest)
                self.assertEqual(answer[1] == 0, in_a_longest, (queue, k))

    def test_as_many_pairs_as_chains_of_two(self):
        for queue in small_queues() + large_queues():
            twos = [one for one in model_chains(queue) if len(one) == 2]
            self.assertEqual(ask_of(queue, pairs()), [[len(twos)]], queue)


class OneMore(unittest.TestCase):
    def test_add_at_each_place_against_as_it_is(self):
        for queue in [queue for queue in small_queues() if len(queue) < 5] + large_queues():
            size = len(queue)
            places = range(size + 1)
            for row in sorted({1, 2, 3, 30} | set(queue[:2])):
                told = ask_of(queue, rounds(), least(row), the_queue(), *[add(row, place) for place in places])
                as_it_is = told[0][0]
                with_one_more = [answer[0] for answer in told[3:]]
                for place in places:
                    self.assertEqual(told[3 + place][1], as_it_is, queue)
                    self.assertIn(with_one_more[place] - as_it_is, (0, 1), queue)
                    grown = queue[:place] + [row] + queue[place:]
                    self.assertEqual(with_one_more[place], max(model_rounds(grown)), (queue, row, place))
                fewest = min(with_one_more)
                self.assertEqual(told[1], [with_one_more.index(fewest), fewest], (queue, row))
                self.assertEqual(told[2], [size] + queue)

    def test_behind_all_changes_nobodys_round(self):
        for queue in small_queues():
            for row in range(1, 6):
                before, number, after = ask_of(queue, rounds(), come(row), rounds())
                self.assertEqual(number, [len(queue)])
                self.assertEqual(after[1:-1], before[1:], queue)
                self.assertIn(after[0] - before[0], (0, 1), queue)

    def test_anywhere_makes_no_fewer_rounds_and_one_more_at_most(self):
        for queue in [queue for queue in small_queues() if len(queue) < 5]:
            size = len(queue)
            for place in range(size + 1):
                before, number, moved, after = ask_of(queue, rounds(), come(2), move(size, place), rounds())
                self.assertEqual(moved, after[:1], queue)
                self.assertIn(after[0] - before[0], (0, 1), queue)
                self.assertEqual(after[1:place + 1], before[1:place + 1], queue)

    def test_out_undoes_what_one_more_did(self):
        for queue in large_queues():
            if len(queue) < 12:
                before, number, moved, left, after = ask_of(
                    queue, rounds(), come(1), move(len(queue), 0), out(0), rounds())
                self.assertEqual((left, after), ([len(queue)], before), queue)


class WhatIsRefusedChangesNothing(unittest.TestCase):
    def test_a_line_without_its_refused_calls_answers_the_same(self):
        chance = random.Random(3)
        for turn in range(60):
            calls = boarded([chance.randint(1, 6) for k in range(chance.randint(0, 7))], 6)
            for step in range(100):
                small = [chance.randint(0, 13) for number in range(2)]
                calls.append(chance.choice([
                    begin(chance.choice([0, 31, 99])), come(small[0]), out(small[0]), move(*small), waits(*small),
                    through(small[0]), order(*range(small[0])), order(*small), add(*small), least(small[0]),
                    those_to(small[0])]))
            told = ask(calls)
            self.assertTrue(any(answer[0] < 0 for answer in told))
            taken = [at for at in range(len(calls)) if told[at][0] >= 0]
            self.assertEqual(ask([calls[at] for at in taken]), [told[at] for at in taken], calls)
            end = look(0, 6)
            self.assertEqual(ask(calls + end)[-len(end):], ask([calls[at] for at in taken] + end)[-len(end):])


if __name__ == "__main__":
    unittest.main()
