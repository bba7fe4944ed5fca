"""What the tests share: the calls by name, and a plain model to hold the program's answers against."""

from itertools import combinations

from boardingqueue.queue import answers

LARGEST = 4294967295


def begin(rows):
    return [0, rows]


def come(row):
    return [1, row]


def out(k):
    return [2, k]


def move(k, place):
    return [3, k, place]


def rounds():
    return [4]


def round_of(k):
    return [5, k]


def who(t):
    return [6, t]


def wait(k):
    return [7, k]


def waits(k, other):
    return [8, k, other]


def chain():
    return [9]


def ask(calls):
    """Each call's answer as a list of its own."""
    given = answers([number for call in calls for number in call])
    split = []
    at = 0
    while at < len(given):
        size = given[at]
        split.append(given[at + 1:at + 1 + size])
        at += 1 + size
    assert at == len(given) and len(split) == len(calls), given
    return split


def boarded(queue, rows=30):
    """The calls that bring a queue, told by its rows, to be."""
    return [begin(rows)] + [come(row) for row in queue]


def ask_of(queue, *calls, rows=30):
    """The answers to calls that are made on such a queue."""
    return ask(boarded(queue, rows) + list(calls))[1 + len(queue):]


def look(size, rows):
    """Calls whose answers tell all there is to tell of a boarding with so many passengers and rows.

    The last part lays each passenger's row open: somebody to each row in turn stands behind all.
    With 12 there is no place for them, so the first goes out before.
    """
    calls = [rounds(), chain()]
    calls += [waits(k, j) for k in range(size) for j in range(k)]
    if size == 12:
        calls.append(out(0))
        size -= 1
    for row in range(1, rows + 2):
        calls.append(come(row))
        calls += [waits(size, k) for k in range(size)]
        calls.append(out(size))
    return calls


def model_waits(queue, k, other):
    return other < k and queue[other] <= queue[k]


def model_rounds(queue):
    """Round by round, as the document tells it: all sit who wait for nobody who doesn't sit yet."""
    sits = {}
    turn = 0
    while len(sits) < len(queue):
        turn += 1
        free = [k for k in range(len(queue)) if k not in sits
                and all(j in sits for j in range(k) if model_waits(queue, k, j))]
        for k in free:
            sits[k] = turn
    return [sits[k] for k in range(len(queue))]


def model_chain(queue):
    """The first of the longest chains, by a look at all sets of passengers in order."""
    for size in range(len(queue), 0, -1):
        for picked in combinations(range(len(queue)), size):
            if all(model_waits(queue, b, a) for a, b in zip(picked, picked[1:])):
                return list(picked)
    return []


class Model:
    """A slow and plain boarding; refusals in the document's order."""

    def __init__(self):
        self.rows = None
        self.queue = []

    def answer(self, call):
        names = ("begin", "come", "out", "move", "rounds", "round", "who", "wait", "waits", "chain")
        name = names[call[0]]
        if name != "begin" and self.rows is None:
            return [-11]
        return getattr(self, name)(*call[1:])

    def lacks(self, k):
        return k not in range(len(self.queue))

    def begin(self, rows):
        if rows not in range(1, 31):
            return [-22]
        self.rows = rows
        self.queue = []
        return [0]

    def come(self, row):
        if row not in range(1, self.rows + 1):
            return [-22]
        if len(self.queue) >= 12:
            return [-28]
        self.queue = self.queue + [row]
        return [len(self.queue) - 1]

    def out(self, k):
        if self.lacks(k):
            return [-2]
        self.queue = self.queue[:k] + self.queue[k + 1:]
        return [len(self.queue)]

    def move(self, k, place):
        if self.lacks(k):
            return [-2]
        if self.lacks(place):
            return [-22]
        others = self.queue[:k] + self.queue[k + 1:]
        self.queue = others[:place] + [self.queue[k]] + others[place:]
        return [max(model_rounds(self.queue))]

    def rounds(self):
        told = model_rounds(self.queue)
        return [max(told, default=0)] + told

    def round(self, k):
        return [-2] if self.lacks(k) else [model_rounds(self.queue)[k]]

    def who(self, t):
        told = model_rounds(self.queue)
        these = [k for k, sits in enumerate(told) if sits == t]
        return [len(these)] + these

    def wait(self, k):
        if self.lacks(k):
            return [-2]
        told = model_rounds(self.queue)
        for j in range(k):
            if model_waits(self.queue, k, j) and told[j] + 1 == told[k]:
                return [j]
        return [-33]

    def waits(self, k, other):
        if self.lacks(k) or self.lacks(other):
            return [-2]
        return [int(model_waits(self.queue, k, other))]

    def chain(self):
        first = model_chain(self.queue)
        return [len(first)] + first
