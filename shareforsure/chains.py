"""Chains for gifts: how gifts that are not best are led on to greater ones."""

from shareforsure.gifts import held_of, left_of
from shareforsure.words import is_number, is_tuple_of


def chain_for(yard, row, gifts):
    """A chain with a gain above 0, or None if there is none, the gifts being best then."""
    worths = yard[1]
    held = held_of(yard, gifts)
    led = _led_on(row, held, {}, left_of(gifts))
    house = _best_with_room(yard, held, led)
    if house is not None:
        return _chain_to(gifts, led, house)
    # By ascending worths: what was met from lesser houses has no room at a worth above theirs,
    # so nor above that of a greater one, and need not be met again.
    for start in sorted(range(len(worths)), key=lambda at: worths[at]):
        if start in led:
            continue
        led = _led_on(row, held, {**led, start: None}, held[start])
        house = _best_with_room(yard, held, led)
        if house is not None and worths[house] > worths[start]:
            return _chain_to(gifts, led, house)
    return None


def chain_from(yard, row, gifts, request):
    """The chain of the greatest gain that begins with a request that is not given, or None if there is none."""
    held = held_of(yard, gifts)
    led = _led_on(row, held, {}, [request])
    house = _best_with_room(yard, held, led)
    return None if house is None else _chain_to(gifts, led, house)


def gain(yard, gifts, chain):
    """The gain of a chain, perhaps below 0."""
    worths = yard[1]
    first = gifts[chain[0][0]]
    lost = 0 if first is None else worths[first]
    return worths[chain[-1][1]] - lost


def chain_done(gifts, chain):
    """The gifts that come of doing a chain, a tuple."""
    given = list(gifts)
    for request, house in chain:
        given[request] = house
    return tuple(given)


def judge_chain(yard, row, gifts, value):
    """None if a value, which may be anything, is a chain for gifts, and otherwise its first fault."""
    if not _is_form(yard, row, value):
        return ("form",)
    fault = _again_fault(value)
    if fault is None:
        fault = _named_fault(row, gifts, value)
    if fault is None:
        fault = _broken_fault(gifts, value)
    if fault is None:
        fault = _full_fault(yard, gifts, value)
    return fault


def _led_on(row, held, known, requests):
    """A dict of the known houses and those that are met from requests on, each with the request that led to it."""
    led = dict(known)
    waiting = list(requests)
    at = 0
    while at < len(waiting) and len(led) < len(held):
        request = waiting[at]
        at += 1
        for house in row[request]:
            if house not in led:
                led[house] = request
                waiting.extend(held[house])
    return led


def _best_with_room(yard, held, led):
    """The house with the greatest worth of those that are met and have room, or None."""
    c, worths = yard
    return max([house for house in led if len(held[house]) < c], key=lambda at: worths[at], default=None)


def _chain_to(gifts, led, house):
    """The chain that led to a house: back to a request that is not given, or to a house where it was begun."""
    pairs = []
    while house is not None and led[house] is not None:
        pairs.append((led[house], house))
        house = gifts[led[house]]
    return tuple(pairs[::-1])


def _is_form(yard, row, value):
    if not isinstance(value, tuple) or value == ():
        return False
    return all([_is_pair_form(len(row), len(yard[1]), pair) for pair in value])


def _is_pair_form(requests, houses, value):
    if not is_tuple_of(2, value):
        return False
    request, house = value
    return is_number(request) and request < requests and is_number(house) and house < houses


def _again_fault(chain):
    earlier = {}
    for number, (request, _) in enumerate(chain):
        if request in earlier:
            return ("again", number)
        earlier[request] = True
    return None


def _named_fault(row, gifts, chain):
    for number, (request, house) in enumerate(chain):
        if house not in row[request] or gifts[request] == house:
            return ("named", number)
    return None


def _broken_fault(gifts, chain):
    for number in range(1, len(chain)):
        if gifts[chain[number][0]] != chain[number - 1][1]:
            return ("broken", number)
    return None


def _full_fault(yard, gifts, chain):
    first, last = chain[0][0], chain[-1][1]
    others = [request for request, house in enumerate(gifts) if house == last and request != first]
    return ("full",) if len(others) >= yard[0] else None
