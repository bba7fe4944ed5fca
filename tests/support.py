"""What the tests share: the calls by name, and a plain model to hold the program's answers against."""

from itertools import combinations

from boardingqueue.queue import answers

LARGEST = 4294967295

NAMES = ("begin", "come", "out", "move", "rounds", "round", "who", "wait", "waits", "chain",
         "through", "pairs", "best", "order", "add", "least", "rows", "queue", "state")


def begin(rows):
    return [0, rows]


def come(row):
    return [1, row]


def out(k):
    return [2, k]


def move(k, place):
    return [3, k, place]


def rounds():
    return [4]


def round_of(k):
    return [5, k]


def who(t):
    return [6, t]


def wait(k):
    return [7, k]


def waits(k, other):
    return [8, k, other]


def chain():
    return [9]


def through(k):
    return [10, k]


def pairs():
    return [11]


def best():
    return [12]


def order(*numbers):
    return [13, len(numbers)] + list(numbers)


def add(row, place):
    return [14, row, place]


def least(row):
    return [15, row]


def those_to(row):
    return [16, row]


def the_queue():
    return [17]


def the_state():
    return [18]


def ask(calls):
    """Each call's answer as a list of its own."""
    given = answers([number for call in calls for number in call])
    split = []
    at = 0
    while at < len(given):
        size = given[at]
        split.append(given[at + 1:at + 1 + size])
        at += 1 + size
    assert at == len(given) and len(split) == len(calls), given
    return split


def boarded(queue, rows=30):
    """The calls that bring a queue, told by its rows, to be."""
    return [begin(rows)] + [come(row) for row in queue]


def ask_of(queue, *calls, rows=30):
    """The answers to calls that are made on such a queue."""
    return ask(boarded(queue, rows) + list(calls))[1 + len(queue):]


def look(size, rows):
    """Calls whose answers tell all there is to tell of a boarding with so many passengers and rows.

    The last part lays each passenger's row open otherwise than by asking for it: somebody to each row
    in turn stands behind all. With 12 there is no place for them, so the first goes out before.
    """
    calls = [rounds(), chain(), the_queue(), the_state(), pairs(), best()]
    calls += [waits(k, j) for k in range(size) for j in range(k)]
    calls += [those_to(row) for row in range(1, rows + 1)]
    if size == 12:
        calls.append(out(0))
        size -= 1
    for row in range(1, rows + 2):
        calls.append(come(row))
        calls += [waits(size, k) for k in range(size)]
        calls.append(out(size))
    return calls


def model_waits(queue, k, other):
    return other < k and queue[other] <= queue[k]


def model_rounds(queue):
    """Round by round, as the document tells it: all sit who wait for nobody who doesn't sit yet."""
    sits = {}
    turn = 0
    while len(sits) < len(queue):
        turn += 1
        free = [k for k in range(len(queue)) if k not in sits
                and all(j in sits for j in range(k) if model_waits(queue, k, j))]
        for k in free:
            sits[k] = turn
    return [sits[k] for k in range(len(queue))]


def model_chain(queue):
    """The first of the longest chains, by a look at all sets of passengers in order."""
    for size in range(len(queue), 0, -1):
        for picked in combinations(range(len(queue)), size):
            if all(model_waits(queue, b, a) for a, b in zip(picked, picked[1:])):
                return list(picked)
    return []


def model_chains(queue):
    """All chains, each a tuple."""
    chains = [(k,) for k in range(len(queue))]
    for begun in chains:
        chains += [begun + (k,) for k in range(len(queue)) if model_waits(queue, k, begun[-1])]
    return chains


def model_best(queue):
    """The best order as the document tells it, one told after the other."""
    left = list(range(len(queue)))
    told = []
    turns = 0
    while left:
        turns += 1
        for row in range(30, 0, -1):
            of_row = [k for k in left if queue[k] == row]
            if of_row:
                told.append(of_row[0])
                left.remove(of_row[0])
    return [turns] + told


class Model:
    """A slow and plain boarding; refusals in the document's order."""

    def __init__(self):
        self.rows = None
        self.queue = []

    def answer(self, call):
        name = NAMES[call[0]]
        if name != "begin" and self.rows is None:
            return [-11]
        return getattr(self, "answer_" + name)(*call[1:])

    def lacks(self, k):
        return k not in range(len(self.queue))

    def lacks_row(self, row):
        return row not in range(1, self.rows + 1)

    def answer_begin(self, rows):
        if rows not in range(1, 31):
            return [-22]
        self.rows = rows
        self.queue = []
        return [0]

    def answer_come(self, row):
        if self.lacks_row(row):
            return [-22]
        if len(self.queue) >= 12:
            return [-28]
        self.queue = self.queue + [row]
        return [len(self.queue) - 1]

    def answer_out(self, k):
        if self.lacks(k):
            return [-2]
        self.queue = self.queue[:k] + self.queue[k + 1:]
        return [len(self.queue)]

    def answer_move(self, k, place):
        if self.lacks(k):
            return [-2]
        if self.lacks(place):
            return [-22]
        others = self.queue[:k] + self.queue[k + 1:]
        self.queue = others[:place] + [self.queue[k]] + others[place:]
        return [max(model_rounds(self.queue))]

    def answer_rounds(self):
        told = model_rounds(self.queue)
        return [max(told, default=0)] + told

    def answer_round(self, k):
        return [-2] if self.lacks(k) else [model_rounds(self.queue)[k]]

    def answer_who(self, t):
        told = model_rounds(self.queue)
        these = [k for k, sits in enumerate(told) if sits == t]
        return [len(these)] + these

    def answer_wait(self, k):
        if self.lacks(k):
            return [-2]
        told = model_rounds(self.queue)
        for j in range(k):
            if model_waits(self.queue, k, j) and told[j] + 1 == told[k]:
                return [j]
        return [-33]

    def answer_waits(self, k, other):
        if self.lacks(k) or self.lacks(other):
            return [-2]
        return [int(model_waits(self.queue, k, other))]

    def answer_chain(self):
        first = model_chain(self.queue)
        return [len(first)] + first

    def answer_through(self, k):
        if self.lacks(k):
            return [-2]
        chains = model_chains(self.queue)
        longest = max(len(one) for one in chains if k in one)
        return [longest, max(len(one) for one in chains) - longest]

    def answer_pairs(self):
        size = len(self.queue)
        return [sum(model_waits(self.queue, k, j) for k in range(size) for j in range(size))]

    def answer_best(self):
        return model_best(self.queue)

    def answer_order(self, count, *numbers):
        everybody = set(range(len(self.queue)))
        if count != len(everybody) or set(numbers) != everybody:
            return [-22]
        told = model_rounds([self.queue[k] for k in numbers])
        return [max(told, default=0)] + told

    def answer_add(self, row, place):
        if self.lacks_row(row) or place not in range(len(self.queue) + 1):
            return [-22]
        grown = list(self.queue)
        grown.insert(place, row)
        return [max(model_rounds(grown)), max(model_rounds(self.queue), default=0)]

    def answer_least(self, row):
        if self.lacks_row(row):
            return [-22]
        told = [(self.answer_add(row, place)[0], place) for place in range(len(self.queue) + 1)]
        return [min(told)[1], min(told)[0]]

    def answer_rows(self, row):
        if self.lacks_row(row):
            return [-22]
        these = [k for k, to in enumerate(self.queue) if to == row]
        return [len(these)] + these

    def answer_queue(self):
        return [len(self.queue)] + self.queue

    def answer_state(self):
        return [len(self.queue), self.rows]
