"""Where it usually breaks: every call on each such queue, held against the model."""

import unittest
from itertools import product

from support import LARGEST, NAMES, Model, ask, boarded, the_queue, the_state

EDGES = {
    "nobody": [],
    "one": [3],
    "one to row 1": [1],
    "one to the last row": [6],
    "all to one row": [4] * 7,
    "twelve to the last row": [6] * 12,
    "twelve to row 1": [1] * 12,
    "rows that rise": [1, 2, 3, 5, 6],
    "rows that fall": [6, 5, 3, 2, 1],
    "two alike": [4, 4],
    "two alike beside each other among others": [5, 4, 4, 3],
    "two alike beside each other ahead of all": [2, 2, 1, 3],
    "two alike beside each other behind all": [1, 3, 2, 2],
    "twelve mixed": [3, 1, 4, 1, 5, 6, 2, 6, 5, 3, 5, 1],
}
PLAIN = ("rounds", "chain", "pairs", "best", "queue", "state")
TWO_NUMBERS = ("move", "waits", "add")


def edge_numbers(size):
    """Places, passengers, rounds and rows at the edges, six rows being there."""
    return sorted({0, 1, 2, 3, 5, 6, 7, 11, 12, 13, 30, 31, max(size - 1, 0), size, size + 1, LARGEST})


def edge_orders(size):
    everybody = list(range(size))
    orders = [everybody, everybody[::-1], everybody[1:] + everybody[:1], everybody[1:], everybody + [size],
              everybody[1:] + [size], everybody[1:] + [LARGEST], everybody + [0], [0] + everybody[:-1]]
    return orders + [[0] * length for length in range(15)] + [list(range(14))]


def calls_at_the_edges(name, size):
    number = NAMES.index(name)
    if name in PLAIN:
        return [[number]]
    if name == "order":
        return [[number, len(numbers)] + numbers for numbers in edge_orders(size)]
    return [[number, *told] for told in product(edge_numbers(size), repeat=2 if name in TWO_NUMBERS else 1)]


class Edges(unittest.TestCase):
    def test_every_call_on_each_queue(self):
        for edge, queue in EDGES.items():
            for name in NAMES:
                for call in calls_at_the_edges(name, len(queue)):
                    calls = boarded(queue, rows=6) + [call, the_queue(), the_state()]
                    model = Model()
                    self.assertEqual(ask(calls), [model.answer(one) for one in calls], (edge, name, call))


if __name__ == "__main__":
    unittest.main()
