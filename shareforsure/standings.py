"""Standings of givers on small yards: their loads, and the ranks of the row so far."""

from shareforsure.ranks import most_by, no_ranks, ranks_after
from shareforsure.tables import check_small, gifts_by_case, requests_of
from shareforsure.words import are_numbers, is_tuple_of


class RankWalk:
    """Leads rank rows of a small yard on, and keeps what they lead to, as many standings share one."""

    def __init__(self, yard):
        self._c = yard[0]
        self._many = len(yard[1])
        self._requests = requests_of(yard)
        self._behind = {}

    def ranks_behind(self, ranks):
        """The list of the rank rows to which the requests lead, in their order."""
        if ranks not in self._behind:
            self._behind[ranks] = [ranks_after(self._c, self._many, ranks, request) for request in self._requests]
        return list(self._behind[ranks])


class TableWalk:
    """Leads standings of a small yard on by a table."""

    def __init__(self, yard, table):
        self._requests = requests_of(yard)
        self._told = gifts_by_case(table)
        self._rank_walk = RankWalk(yard)

    def standings_behind(self, standing):
        """The list of the standings to which the requests lead, in their order."""
        loads, ranks = standing
        rows = self._rank_walk.ranks_behind(ranks)
        gifts = [self._told.get((loads, request)) for request in self._requests]
        return [(loads_behind(loads, gift), row) for gift, row in zip(gifts, rows)]


def first_standing(yard):
    """The standing ahead of all requests."""
    check_small(yard)
    houses = len(yard[1])
    return (0,) * houses, no_ranks(houses)


def standing_behind(yard, table, standing, request):
    """The standing to which a request leads a standing of a table giver."""
    check_small(yard)
    loads, ranks = standing
    gift = gifts_by_case(table).get((loads, request))
    return loads_behind(loads, gift), ranks_after(yard[0], len(loads), ranks, request)


def given_of(yard, standing):
    """The given of a standing."""
    check_small(yard)
    return sum([load * worth for load, worth in zip(standing[0], yard[1])])


def most_of(yard, standing):
    """The most of a standing."""
    check_small(yard)
    return most_by(yard, standing[1])


def share_of(yard, standing):
    """The share of a standing, a fraction, perhaps not in least form."""
    most = most_of(yard, standing)
    return (given_of(yard, standing), most) if most > 0 else (1, 1)


def is_met(yard, p, q, standing):
    """Whether the most of a standing is above 0, and its given at most p / q of it."""
    most = most_of(yard, standing)
    return most > 0 and q * given_of(yard, standing) <= p * most


def short_number(yard, p, q, found):
    """The number of the first one of some standings whose given is less than p / q of its most, or None."""
    for number, standing in enumerate(found):
        if q * given_of(yard, standing) < p * most_of(yard, standing):
            return number
    return None


def standings(yard, table):
    """The ascending list of the standings that a table giver comes to."""
    return sorted(come_to(yard, table))


def come_to(yard, table):
    """The dict from all standings that a table giver comes to, nearest ones first, to how each is come to.

    This is the pair of the standing ahead, on a row as short as can be, and of the request; None for the first one.
    """
    first = first_standing(yard)
    requests = requests_of(yard)
    walk = TableWalk(yard, table)
    led = {first: None}
    waiting = [first]
    at = 0
    while at < len(waiting):
        ahead = waiting[at]
        at += 1
        for request, standing in zip(requests, walk.standings_behind(ahead)):
            if standing not in led:
                led[standing] = (ahead, request)
                waiting.append(standing)
    return led


def loads_behind(loads, gift):
    """The loads behind a gift."""
    if gift is None:
        return loads
    return loads[:gift] + (loads[gift] + 1,) + loads[gift + 1:]


def is_standing_form(yard, value):
    """Whether a value, which may be anything, has the form of a standing, any numbers standing for ranks."""
    if not is_tuple_of(2, value):
        return False
    c, worths = yard
    loads, ranks = value
    if not are_numbers(loads, len(worths)) or not are_numbers(ranks, 1 << len(worths)):
        return False
    return all([load <= c for load in loads])


def order_fault(found):
    """The fault that a standing is not greater than the one ahead, or None."""
    for number in range(1, len(found)):
        if found[number] <= found[number - 1]:
            return ("order", number)
    return None


def listed_fault(yard, found):
    """The first fault of standings in form, as they are listed: that of their order, or that the first one lacks."""
    fault = order_fault(found)
    if fault is not None:
        return fault
    return None if first_standing(yard) in found else ("first",)
