"""Who waits for whom in a queue, in which round each sits, the longest chains, and other orders.

A queue is a list: of each passenger, in the order of the queue, the row they go to.
"""


def waits_for(queue, k, other):
    """True if passenger k waits for the other."""
    return other < k and queue[other] <= queue[k]


def rounds_of(queue):
    """Of each passenger the round in which they sit."""
    rounds = []
    for k in range(len(queue)):
        awaited = [rounds[j] for j in range(k) if waits_for(queue, k, j)]
        rounds.append(1 + max(awaited, default=0))
    return rounds


def rounds_needed(queue):
    """How many rounds it takes till all sit."""
    return max(rounds_of(queue), default=0)


def last_awaited(queue, k):
    """Those for whom passenger k waits to the last: whose round is just one less."""
    rounds = rounds_of(queue)
    return [j for j in range(k) if waits_for(queue, k, j) and rounds[j] == rounds[k] - 1]


def waiting_pairs(queue):
    """How many twos there are of whom one waits for the other."""
    pairs = 0
    for k in range(len(queue)):
        pairs = pairs + len([j for j in range(k) if waits_for(queue, k, j)])
    return pairs


def lengths_from(queue):
    """Of each passenger, how many the longest chain has that begins with them."""
    size = len(queue)
    lengths = [1] * size
    for k in range(size - 1, -1, -1):
        behind = [lengths[j] for j in range(k + 1, size) if waits_for(queue, j, k)]
        lengths[k] = 1 + max(behind, default=0)
    return lengths


def first_longest_chain(queue):
    """The first of the longest chains."""
    lengths = lengths_from(queue)
    missing = max(lengths, default=0)
    chain = []
    # Whoever comes first and still begins a chain of all that are missing has the least number
    # that can stand next, so no later choice has to be taken back.
    for k in range(len(queue)):
        follows = chain == [] or waits_for(queue, k, chain[-1])
        if follows and lengths[k] == missing:
            chain.append(k)
            missing = missing - 1
    return chain


def lengths_through(queue):
    """Of each passenger, how many the longest chain has that they're in."""
    # The longest chain that ends with somebody has as many as their round tells; they count in both parts.
    return [ahead + behind - 1 for ahead, behind in zip(rounds_of(queue), lengths_from(queue))]


def fewest_rounds(queue):
    """How few rounds it takes in some order: those of one row wait for each other in any."""
    return max([queue.count(row) for row in queue], default=0)


def best_order(queue):
    """The passengers' numbers, again and again one of each row, the farthest row first."""
    turns = [queue[:k].count(queue[k]) for k in range(len(queue))]
    return sorted(range(len(queue)), key=lambda k: (turns[k], -queue[k]))


def with_one_more(queue, row, place):
    """Such a queue in which one more, to that row, stands at that place."""
    return queue[:place] + [row] + queue[place:]


def rounds_by_place(queue, row):
    """Of each place how many rounds it takes with one more there, to that row."""
    return [rounds_needed(with_one_more(queue, row, place)) for place in range(len(queue) + 1)]
