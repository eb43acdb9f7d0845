"""The kinds of a row, and gifts that are carried between rows that are alike."""


def kinds_of(row):
    """The kinds of a row: the ascending pairs of its unlike requests, each with how often it stands there."""
    many = {}
    for request in row:
        many[request] = many.get(request, 0) + 1
    return tuple([(request, many[request]) for request in sorted(many)])


def row_of(kinds):
    """The row that has the requests of kinds in their order, each as often as told."""
    return tuple([request for request, many in kinds for _ in range(many)])


def carried(row, gifts, other):
    """The gifts for a row carried to another one, a tuple, or None if the two rows are not alike."""
    if kinds_of(row) != kinds_of(other):
        return None
    waiting = {}
    for request, gift in zip(row, gifts):
        waiting.setdefault(request, []).append(gift)
    gone = {request: 0 for request in waiting}
    brought = []
    for request in other:
        brought.append(waiting[request][gone[request]])
        gone[request] += 1
    return tuple(brought)
