"""Ranks of lots of houses: the most gifts that each lot can have.

A lot is told by a number here, the sum of 2 ** j for its houses j; a rank row has the rank of each lot at its number.
"""


def no_ranks(n):
    """The rank row for n houses of the row that has no requests."""
    return (0,) * (1 << n)


def ranks_after(c, n, ranks, request):
    """The rank row that a rank row becomes by one request more."""
    named = _lot_of(request)
    after = [rank + 1 if lot & named else rank for lot, rank in enumerate(ranks)]
    # House by house: a lot without this house, and c for it, may be less than what the lot has.
    for house in range(n):
        for lot in range(len(after)):
            if lot >> house & 1:
                after[lot] = min(after[lot], after[lot - (1 << house)] + c)
    return tuple(after)


def ranks_of(c, n, row):
    """The rank row of a row."""
    ranks = no_ranks(n)
    for request in row:
        ranks = ranks_after(c, n, ranks, request)
    return ranks


def most_by(yard, ranks):
    """The most of a yard for any row with a rank row."""
    worths = yard[1]
    most = 0
    below = 0
    for level in sorted(set(worths)):
        lot = _lot_of([house for house, worth in enumerate(worths) if worth >= level])
        most += (level - below) * ranks[lot]
        below = level
    return most


def _lot_of(houses):
    return sum([1 << house for house in houses])
