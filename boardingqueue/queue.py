"""The calls on one boarding, handed in and answered as lists of whole numbers."""

from boardingqueue.waiting import best_order, fewest_rounds, first_longest_chain, last_awaited, lengths_through
from boardingqueue.waiting import rounds_by_place, rounds_needed, rounds_of, waiting_pairs, waits_for, with_one_more

MOST_ROWS = 30
MOST_PASSENGERS = 12

NONE_SUCH = -2
NOT_BEGUN = -11
NOT_AS_TOLD = -22
TOO_MANY = -28
FOR_NOBODY = -33


class Boarding:
    """What the calls are made on: how many rows there are, and of each in the queue the row."""

    def __init__(self):
        # No begin that is taken leaves 0 rows, so 0 can stand for not begun.
        self.row_count = 0
        self.queue = []

    def is_begun(self):
        return self.row_count > 0

    def has_row(self, row):
        return 1 <= row <= self.row_count

    def has_passenger(self, k):
        return k < len(self.queue)


def answer_begin(boarding, arguments):
    row_count = arguments[0]
    if row_count < 1 or row_count > MOST_ROWS:
        return [NOT_AS_TOLD]
    boarding.row_count = row_count
    boarding.queue = []
    return [0]


def answer_come(boarding, arguments):
    row = arguments[0]
    if not boarding.has_row(row):
        return [NOT_AS_TOLD]
    if len(boarding.queue) == MOST_PASSENGERS:
        return [TOO_MANY]
    boarding.queue.append(row)
    return [len(boarding.queue) - 1]


def answer_out(boarding, arguments):
    k = arguments[0]
    if not boarding.has_passenger(k):
        return [NONE_SUCH]
    boarding.queue.pop(k)
    return [len(boarding.queue)]


def answer_move(boarding, arguments):
    k = arguments[0]
    place = arguments[1]
    if not boarding.has_passenger(k):
        return [NONE_SUCH]
    if place >= len(boarding.queue):
        return [NOT_AS_TOLD]
    row = boarding.queue.pop(k)
    boarding.queue.insert(place, row)
    return [rounds_needed(boarding.queue)]


def answer_rounds(boarding, arguments):
    return [rounds_needed(boarding.queue)] + rounds_of(boarding.queue)


def answer_round(boarding, arguments):
    k = arguments[0]
    if not boarding.has_passenger(k):
        return [NONE_SUCH]
    return [rounds_of(boarding.queue)[k]]


def answer_who(boarding, arguments):
    asked = arguments[0]
    rounds = rounds_of(boarding.queue)
    sitting = [k for k in range(len(rounds)) if rounds[k] == asked]
    return [len(sitting)] + sitting


def answer_wait(boarding, arguments):
    k = arguments[0]
    if not boarding.has_passenger(k):
        return [NONE_SUCH]
    awaited = last_awaited(boarding.queue, k)
    if awaited == []:
        return [FOR_NOBODY]
    return [awaited[0]]


def answer_waits(boarding, arguments):
    k = arguments[0]
    other = arguments[1]
    if not boarding.has_passenger(k) or not boarding.has_passenger(other):
        return [NONE_SUCH]
    return [1 if waits_for(boarding.queue, k, other) else 0]


def answer_chain(boarding, arguments):
    chain = first_longest_chain(boarding.queue)
    return [len(chain)] + chain


def answer_through(boarding, arguments):
    k = arguments[0]
    if not boarding.has_passenger(k):
        return [NONE_SUCH]
    lengths = lengths_through(boarding.queue)
    return [lengths[k], max(lengths) - lengths[k]]


def answer_pairs(boarding, arguments):
    return [waiting_pairs(boarding.queue)]


def answer_best(boarding, arguments):
    return [fewest_rounds(boarding.queue)] + best_order(boarding.queue)


def answer_order(boarding, arguments):
    order = arguments[1:]
    if sorted(order) != list(range(len(boarding.queue))):
        return [NOT_AS_TOLD]
    reordered = [boarding.queue[k] for k in order]
    return [rounds_needed(reordered)] + rounds_of(reordered)


def answer_add(boarding, arguments):
    row = arguments[0]
    place = arguments[1]
    if not boarding.has_row(row) or place > len(boarding.queue):
        return [NOT_AS_TOLD]
    return [rounds_needed(with_one_more(boarding.queue, row, place)), rounds_needed(boarding.queue)]


def answer_least(boarding, arguments):
    row = arguments[0]
    if not boarding.has_row(row):
        return [NOT_AS_TOLD]
    needed = rounds_by_place(boarding.queue, row)
    fewest = min(needed)
    return [needed.index(fewest), fewest]


def answer_rows(boarding, arguments):
    row = arguments[0]
    if not boarding.has_row(row):
        return [NOT_AS_TOLD]
    going = [k for k in range(len(boarding.queue)) if boarding.queue[k] == row]
    return [len(going)] + going


def answer_queue(boarding, arguments):
    return [len(boarding.queue)] + boarding.queue


def answer_state(boarding, arguments):
    return [len(boarding.queue), boarding.row_count]


BEGIN = 0
ORDER = 13

# Both stand in the order of the calls' numbers.
ANSWERERS = (
    answer_begin,
    answer_come,
    answer_out,
    answer_move,
    answer_rounds,
    answer_round,
    answer_who,
    answer_wait,
    answer_waits,
    answer_chain,
    answer_through,
    answer_pairs,
    answer_best,
    answer_order,
    answer_add,
    answer_least,
    answer_rows,
    answer_queue,
    answer_state,
)
# Of order only the count that stands before its numbers is counted here.
ARGUMENT_COUNTS = (1, 1, 1, 2, 0, 1, 1, 1, 2, 0, 1, 0, 0, 1, 2, 1, 1, 0, 0)


def answer_call(boarding, number, arguments):
    if number != BEGIN and not boarding.is_begun():
        return [NOT_BEGUN]
    return ANSWERERS[number](boarding, arguments)


def end_of_call(calls, start):
    """The place behind the last number of the call that starts there."""
    end = start + 1 + ARGUMENT_COUNTS[calls[start]]
    if calls[start] == ORDER:
        end = end + calls[start + 1]
    return end


def answers(calls):
    """Make the calls on a new boarding; give back, for each, how many numbers are answered, and these."""
    boarding = Boarding()
    answered = []
    start = 0
    while start < len(calls):
        end = end_of_call(calls, start)
        answer = answer_call(boarding, calls[start], calls[start + 1:end])
        answered.append(len(answer))
        answered.extend(answer)
        start = end
    return answered
