"""Covers: numbers for houses and requests whose price nobody gives more than."""

from shareforsure.gifts import loads_of
from shareforsure.most import best_gifts
from shareforsure.words import are_numbers, is_tuple_of


def cover(yard, row):
    """A cover whose price is the most of a row."""
    met = _met_worths(yard, row, best_gifts(yard, row))
    houses = tuple([worth - level for worth, level in zip(yard[1], met)])
    requests = tuple([max([met[house] for house in request], default=0) for request in row])
    return houses, requests


def cover_price(yard, cover):
    """The price of a cover, or of any pair of two tuples of numbers."""
    houses, requests = cover
    return yard[0] * sum(houses) + sum(requests)


def judge_cover(yard, row, value):
    """None if a value, which may be anything, is a cover for a row, and otherwise its first fault."""
    if not _is_form(yard, row, value):
        return ("form",)
    houses, requests = value
    for number, request in enumerate(row):
        for house in request:
            if houses[house] + requests[number] < yard[1][house]:
                return ("short", number, house)
    return None


def _met_worths(yard, row, gifts):
    """For each house the greatest worth of which it is met, 0 if there is none, gifts being best.

    It is met of a worth if some house with room leads to it, from houses to the requests that name them and
    from these to the houses that they are given to, by houses of at least this worth alone. So at each level
    above that the house is one of those which tell the rank, and at the others the requests that name it are.
    """
    c, worths = yard
    met = [worth if load < c else 0 for worth, load in zip(worths, loads_of(yard, gifts))]
    waiting = list(range(len(worths)))
    while waiting:
        house = max(waiting, key=lambda at: met[at])
        waiting.remove(house)
        for request, gift in zip(row, gifts):
            if gift is not None and house in request:
                met[gift] = max(met[gift], min(met[house], worths[gift]))
    return met


def _is_form(yard, row, value):
    if not is_tuple_of(2, value):
        return False
    houses, requests = value
    return are_numbers(houses, len(yard[1])) and are_numbers(requests, len(row))
