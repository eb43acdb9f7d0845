"""The least share of a table giver on a small yard, and the papers that show it."""

from math import gcd

from shareforsure.standings import TableWalk, come_to, first_standing, given_of, most_of, standings
from shareforsure.tables import check_small
from shareforsure.words import are_numbers, is_number


def least_share(yard, table):
    """The least share of a table giver on any row, a fraction in least form."""
    least = (1, 1)
    for standing in standings(yard, table):
        given, most = given_of(yard, standing), most_of(yard, standing)
        if given * least[1] < least[0] * most:
            least = (given, most)
    divisor = gcd(least[0], least[1])
    return least[0] // divisor, least[1] // divisor


def kept_paper(yard, table, p, q):
    """A kept paper for p / q, or None if there is none."""
    found = standings(yard, table)
    return None if _short_number(yard, p, q, found) is not None else tuple(found)


def met_row(yard, table, p, q):
    """A row as short as can be on which at most p / q of the most is given, or None if there is none."""
    led = come_to(yard, table)
    for standing in led:
        if _is_met(yard, p, q, standing):
            return _row_to(led, standing)
    return None


def late_paper(yard, table, p, q, m):
    """A paper that shows that no row of fewer than m requests is met, or None if there is none."""
    led = come_to(yard, table)
    steps = {}
    for standing in led:
        # Each standing stands behind the one from which it is come to.
        steps[standing] = 0 if led[standing] is None else steps[led[standing][0]] + 1
    early = [(standing, steps[standing]) for standing in sorted(led) if steps[standing] < m]
    return None if _met_number(yard, p, q, early) is not None else tuple(early)


def judge_kept(yard, table, p, q, value):
    """None if a value, which may be anything, is a kept paper, and otherwise its first fault."""
    check_small(yard)
    if not isinstance(value, tuple) or not all([_is_standing_form(yard, standing) for standing in value]):
        return ("form",)
    order = _order_number(value)
    if order is not None:
        return ("order", order)
    if first_standing(yard) not in value:
        return ("first",)
    led = _led_out(yard, table, [(standing, 0) for standing in value], 1, 0)
    if led is not None:
        return ("led",) + led
    short = _short_number(yard, p, q, value)
    return None if short is None else ("share", short)


def judge_late(yard, table, p, q, m, value):
    """None if a value, which may be anything, is a late paper for m, and otherwise its first fault."""
    check_small(yard)
    if not isinstance(value, tuple) or not all([_is_late_form(yard, m, pair) for pair in value]):
        return ("form",)
    order = _order_number([standing for standing, _ in value])
    if order is not None:
        return ("order", order)
    if (first_standing(yard), 0) not in value:
        return ("first",)
    led = _led_out(yard, table, value, m - 1, 1)
    if led is not None:
        return ("led",) + led
    met = _met_number(yard, p, q, value)
    return None if met is None else ("share", met)


def _is_met(yard, p, q, standing):
    """Whether the most of a standing is above 0, and its given at most p / q of it."""
    most = most_of(yard, standing)
    return most > 0 and q * given_of(yard, standing) <= p * most


def _row_to(led, standing):
    """The row by which a standing is come to."""
    row = []
    while led[standing] is not None:
        standing, request = led[standing]
        row.append(request)
    return tuple(row[::-1])


def _short_number(yard, p, q, found):
    """The number of the first standing whose given is less than p / q of its most, or None."""
    for number, standing in enumerate(found):
        if q * given_of(yard, standing) < p * most_of(yard, standing):
            return number
    return None


def _met_number(yard, p, q, pairs):
    """The number of the first pair whose standing is met, or None."""
    for number, (standing, _) in enumerate(pairs):
        if _is_met(yard, p, q, standing):
            return number
    return None


def _order_number(found):
    """The number of the first standing that is not greater than the one ahead, or None."""
    for number in range(1, len(found)):
        if found[number] <= found[number - 1]:
            return number
    return None


def _led_out(yard, table, pairs, end, more):
    """The first pair, of those with a number less than an end, and the first request, that leads out of the pairs.

    So does a request that leads to a standing with a number more than so much greater. None if there is none.
    """
    walk = TableWalk(yard, table)
    numbers = {standing: number for standing, number in pairs}
    for at, (standing, number) in enumerate(pairs):
        behind = walk.standings_behind(standing) if number < end else []
        for request, other in enumerate(behind):
            if other not in numbers or numbers[other] > number + more:
                return at, request
    return None


def _is_pair(value):
    return isinstance(value, tuple) and len(value) == 2


def _is_standing_form(yard, value):
    if not _is_pair(value):
        return False
    c, worths = yard
    loads, ranks = value
    if not are_numbers(loads, len(worths)) or not are_numbers(ranks, 1 << len(worths)):
        return False
    return all([load <= c for load in loads])


def _is_late_form(yard, m, value):
    if not _is_pair(value):
        return False
    standing, number = value
    return _is_standing_form(yard, standing) and is_number(number) and number < m
