"""Papers that show the best share of a small yard: for a giver who keeps it, and for a player who allows no more."""

from shareforsure.games import Game, led, lets, raises
from shareforsure.quotients import is_less
from shareforsure.sheets import request_fault
from shareforsure.standings import first_standing, is_met, is_standing_form, listed_fault, short_number
from shareforsure.tables import check_small, requests_of
from shareforsure.words import is_number, is_tuple_of


def giver_paper(yard, p, q):
    """A giver paper for p / q, or None if there is none."""
    game = Game(yard)
    first = first_standing(yard)
    if is_less(game.value_of(first), (p, q)):
        return None
    gifts_at = {}
    waiting = [first]
    while waiting:
        standing = waiting.pop()
        if standing not in gifts_at:
            leads = game.leads(standing)
            gifts = tuple([_keeping_gift(game, (p, q), led_to) for led_to in leads])
            gifts_at[standing] = gifts
            waiting += [led_to[gift] for led_to, gift in zip(leads, gifts) if led_to is not None]
    return tuple([(standing, gifts_at[standing]) for standing in sorted(gifts_at)])


def player_paper(yard, p, q):
    """A player paper for p / q, or None if there is none."""
    game = Game(yard)
    first = first_standing(yard)
    if is_less((p, q), game.value_of(first)):
        return None
    asked_at = {}
    waiting = [first]
    while waiting:
        standing = waiting.pop()
        if standing in asked_at:
            continue
        asked_at[standing] = None
        if not is_met(yard, p, q, standing):
            number, led_to = _pressing_lead(game, (p, q), standing)
            asked_at[standing] = requests_of(yard)[number]
            waiting += list(led_to.values())
    return tuple([(standing, asked_at[standing]) for standing in sorted(asked_at)])


def judge_giver_paper(yard, p, q, value):
    """None if a value, which may be anything, is a giver paper for p / q, and otherwise its first fault."""
    check_small(yard)
    if not _is_paper_form(yard, value, _is_gifts_form):
        return ("form",)
    found = [standing for standing, _ in value]
    fault = listed_fault(yard, found)
    if fault is not None:
        return fault
    game = Game(yard)
    fault = _gift_fault(game, value)
    if fault is not None:
        return fault
    short = short_number(yard, p, q, found)
    return _giver_led_fault(game, value) if short is None else ("share", short)


def judge_player_paper(yard, p, q, value):
    """None if a value, which may be anything, is a player paper for p / q, and otherwise its first fault."""
    check_small(yard)
    if not _is_paper_form(yard, value, _is_asked_form):
        return ("form",)
    fault = listed_fault(yard, [standing for standing, _ in value])
    if fault is None:
        fault = _request_fault(yard, value)
    if fault is None:
        fault = _end_fault(yard, p, q, value)
    if fault is None:
        fault = _player_led_fault(yard, value)
    return fault


def _keeping_gift(game, fraction, led_to):
    """The first gift that leads to a value of at least a fraction, or None where the ranks are not raised."""
    if led_to is None:
        return None
    return [gift for gift in led_to if not is_less(game.value_of(led_to[gift]), fraction)][0]


def _pressing_lead(game, fraction, standing):
    """The number of the first request that raises the ranks and lets no value above a fraction, and where it leads."""
    for number, led_to in enumerate(game.leads(standing)):
        if led_to is not None and not any([is_less(fraction, game.value_of(led_to[gift])) for gift in led_to]):
            return number, led_to
    return None


def _is_paper_form(yard, value, is_told_form):
    """Whether a value is a tuple of pairs of standings and of what has a form that a function tells."""
    if not isinstance(value, tuple):
        return False
    return all([is_tuple_of(2, pair) and is_standing_form(yard, pair[0]) and is_told_form(yard, pair[1])
                for pair in value])


def _is_gifts_form(yard, value):
    requests = requests_of(yard)
    if not is_tuple_of(len(requests), value):
        return False
    return all([gift is None or (is_number(gift) and gift in request) for gift, request in zip(value, requests)])


def _is_asked_form(yard, value):
    return value is None or request_fault(yard, value) is None


def _gift_fault(game, paper):
    for number, (standing, gifts) in enumerate(paper):
        for request, (gift, led_to) in enumerate(zip(gifts, game.leads(standing))):
            if gift is not None and (led_to is None or gift not in led_to):
                return ("gift", number, request)
    return None


def _giver_led_fault(game, paper):
    among = {standing: True for standing, _ in paper}
    for number, (standing, gifts) in enumerate(paper):
        for request, (gift, led_to) in enumerate(zip(gifts, game.leads(standing))):
            if led_to is not None and led_to[gift] not in among:
                return ("led", number, request)
    return None


def _request_fault(yard, paper):
    for number, (standing, request) in enumerate(paper):
        if request is not None and not raises(yard, standing, request):
            return ("request", number)
    return None


def _end_fault(yard, p, q, paper):
    for number, (standing, request) in enumerate(paper):
        if request is None and not is_met(yard, p, q, standing):
            return ("share", number)
    return None


def _player_led_fault(yard, paper):
    among = {standing: True for standing, _ in paper}
    for number, (standing, request) in enumerate(paper):
        gifts = [] if request is None else lets(yard, standing, request)
        for gift in gifts:
            if led(yard, standing, request, gift) not in among:
                return ("led", number, gift)
    return None
