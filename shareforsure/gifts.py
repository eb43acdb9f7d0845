"""Gifts for a yard and a row: whether a value is such, and what they come to."""

from shareforsure.words import is_number, is_tuple_of


def gifts_fault(yard, row, value):
    """None if a value, which may be anything, is gifts for a yard and a row, and otherwise its first fault."""
    if not _is_form(row, value):
        return ("form",)
    for request, gift in enumerate(value):
        if gift is not None and gift not in row[request]:
            return ("gift", request)
    return _room_fault(yard, value)


def loads_of(yard, gifts):
    """The loads, a tuple: for each house how often it stands in gifts."""
    loads = [0] * len(yard[1])
    for gift in gifts:
        if gift is not None:
            loads[gift] += 1
    return tuple(loads)


def given_of(yard, gifts):
    """The sum of the worths of the houses that stand in gifts."""
    worths = yard[1]
    return sum([worths[gift] for gift in gifts if gift is not None])


def held_of(yard, gifts):
    """For each house the list of the requests that are given to it, ascending."""
    held = [[] for _ in yard[1]]
    for request, house in enumerate(gifts):
        if house is not None:
            held[house].append(request)
    return held


def left_of(gifts):
    """The ascending list of the requests that are not given."""
    return [request for request, gift in enumerate(gifts) if gift is None]


def full_of(yard, gifts):
    """The ascending list of the houses that have no room."""
    return [house for house, load in enumerate(loads_of(yard, gifts)) if load == yard[0]]


def is_let(c, loads, request, gift):
    """Whether a gift, which may be anything, is None, or a house that the request names and that has room."""
    return gift is None or (is_number(gift) and gift in request and loads[gift] < c)


def _is_form(row, value):
    if not is_tuple_of(len(row), value):
        return False
    return all([gift is None or is_number(gift) for gift in value])


def _room_fault(yard, gifts):
    loads = [0] * len(yard[1])
    for request, gift in enumerate(gifts):
        if gift is None:
            continue
        if loads[gift] == yard[0]:
            return ("room", request)
        loads[gift] += 1
    return None
