"""Plays: whether a value is one, and what it comes to, phase by phase."""

from shareforsure.gifts import left_of
from shareforsure.players import SizedPlayer, bound_of, phase_many
from shareforsure.words import are_numbers, is_tuple_of


def judge_play(c, sizes, value):
    """None if a value, which may be anything, is a play of the player with some sizes, or its first fault."""
    if not _is_form(value):
        return ("form",)
    player = SizedPlayer(c, sizes)
    for number, (request, gift) in enumerate(zip(value[0], value[1])):
        asked = player.asks()
        # What is equal may be made of True and False, which are no numbers.
        if asked is None or request != asked or not are_numbers(request, len(asked)):
            return ("request", number)
        if not player.lets(gift):
            return ("gift", number)
        player.told(gift)
    return None if player.asks() is None else ("end",)


def play_account(c, sizes, play):
    """The account of a play, a tuple: for each phase its size, the loads, and how many requests were not given."""
    row, gifts = play
    account = []
    begun = 0
    for phase, size in enumerate(sizes):
        houses = {house: True for house in row[begun]}
        loads = sum([1 for gift in gifts[:begun] if gift in houses])
        account.append((size, loads, len(left_of(gifts[:begun]))))
        begun += phase_many(c, sizes, phase)
    return tuple(account)


def play_room(c, sizes, play):
    """The bound of the sizes less how many requests of a play were given: a number."""
    _, gifts = play
    return bound_of(c, sizes) - (len(gifts) - len(left_of(gifts)))


def _is_form(value):
    if not is_tuple_of(2, value):
        return False
    row, gifts = value
    return isinstance(row, tuple) and isinstance(gifts, tuple) and len(row) == len(gifts)
