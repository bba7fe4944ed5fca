"""Who waits for whom in a queue, in which round each sits, and the longest chain.

A queue is a list: of each passenger, in the order of the queue, the row they go to.
"""


def waits_for(queue, k, other):
    """True if passenger k waits for the other."""
    return other < k and queue[other] <= queue[k]


def rounds_of(queue):
    """Of each passenger the round in which they sit."""
    rounds = []
    for k in range(len(queue)):
        awaited = [rounds[j] for j in range(k) if waits_for(queue, k, j)]
        rounds.append(1 + max(awaited, default=0))
    return rounds


def rounds_needed(queue):
    """How many rounds it takes till all sit."""
    return max(rounds_of(queue), default=0)


def last_awaited(queue, k):
    """Those for whom passenger k waits to the last: whose round is just one less."""
    rounds = rounds_of(queue)
    return [j for j in range(k) if waits_for(queue, k, j) and rounds[j] == rounds[k] - 1]


def lengths_from(queue):
    """Of each passenger, how many the longest chain has that begins with them."""
    size = len(queue)
    lengths = [1] * size
    for k in range(size - 1, -1, -1):
        behind = [lengths[j] for j in range(k + 1, size) if waits_for(queue, j, k)]
        lengths[k] = 1 + max(behind, default=0)
    return lengths


def first_longest_chain(queue):
    """The first of the longest chains."""
    lengths = lengths_from(queue)
    missing = max(lengths, default=0)
    chain = []
    # Whoever comes first and still begins a chain of all that are missing has the least number
    # that can stand next, so no later choice has to be taken back.
    for k in range(len(queue)):
        follows = chain == [] or waits_for(queue, k, chain[-1])
        if follows and lengths[k] == missing:
            chain.append(k)
            missing = missing - 1
    return chain
