"""The least share of a table giver on a small yard, and the papers that show it."""

from shareforsure.quotients import least_form, least_of
from shareforsure.standings import (TableWalk, come_to, first_standing, is_met, is_standing_form, listed_fault,
                                    order_fault, share_of, short_number, standings)
from shareforsure.tables import check_small
from shareforsure.words import is_number, is_tuple_of


def least_share(yard, table):
    """The least share of a table giver on any row, a fraction in least form."""
    return least_form(least_of([share_of(yard, standing) for standing in standings(yard, table)]))


def kept_paper(yard, table, p, q):
    """A kept paper for p / q, or None if there is none."""
    found = standings(yard, table)
    return None if short_number(yard, p, q, found) is not None else tuple(found)


def met_row(yard, table, p, q):
    """A row as short as can be on which at most p / q of the most is given, or None if there is none."""
    led = come_to(yard, table)
    for standing in led:
        if is_met(yard, p, q, standing):
            return _row_to(led, standing)
    return None


def late_paper(yard, table, p, q, m):
    """A paper that shows that no row of fewer than m requests is met, or None if there is none."""
    led = come_to(yard, table)
    steps = {}
    for standing in led:
        # Each standing stands behind the one from which it is come to.
        steps[standing] = 0 if led[standing] is None else steps[led[standing][0]] + 1
    early = [(standing, steps[standing]) for standing in sorted(led) if steps[standing] < m]
    return None if _met_number(yard, p, q, early) is not None else tuple(early)


def judge_kept(yard, table, p, q, value):
    """None if a value, which may be anything, is a kept paper, and otherwise its first fault."""
    check_small(yard)
    if not isinstance(value, tuple) or not all([is_standing_form(yard, standing) for standing in value]):
        return ("form",)
    fault = listed_fault(yard, value)
    if fault is not None:
        return fault
    led = _led_out(yard, table, [(standing, 0) for standing in value], 1, 0)
    if led is not None:
        return ("led",) + led
    short = short_number(yard, p, q, value)
    return None if short is None else ("share", short)


def judge_late(yard, table, p, q, m, value):
    """None if a value, which may be anything, is a late paper for m, and otherwise its first fault."""
    check_small(yard)
    if not isinstance(value, tuple) or not all([_is_late_form(yard, m, pair) for pair in value]):
        return ("form",)
    fault = order_fault([standing for standing, _ in value])
    if fault is not None:
        return fault
    if (first_standing(yard), 0) not in value:
        return ("first",)
    led = _led_out(yard, table, value, m - 1, 1)
    if led is not None:
        return ("led",) + led
    met = _met_number(yard, p, q, value)
    return None if met is None else ("share", met)


def _row_to(led, standing):
    """The row by which a standing is come to."""
    row = []
    while led[standing] is not None:
        standing, request = led[standing]
        row.append(request)
    return tuple(row[::-1])


def _met_number(yard, p, q, pairs):
    """The number of the first pair whose standing is met, or None."""
    for number, (standing, _) in enumerate(pairs):
        if is_met(yard, p, q, standing):
            return number
    return None


def _led_out(yard, table, pairs, end, more):
    """The first pair, of those with a number less than an end, and the first request, that leads out of the pairs.

    So does a request that leads to a standing with a number more than so much greater. None if there is none.
    """
    walk = TableWalk(yard, table)
    numbers = {standing: number for standing, number in pairs}
    for at, (standing, number) in enumerate(pairs):
        behind = walk.standings_behind(standing) if number < end else []
        for request, other in enumerate(behind):
            if other not in numbers or numbers[other] > number + more:
                return at, request
    return None


def _is_late_form(yard, m, value):
    if not is_tuple_of(2, value):
        return False
    standing, number = value
    return is_standing_form(yard, standing) and is_number(number) and number < m
