"""Loads that gifts for a row can have, and lots that bar the others."""


def gifts_with(yard, row, loads):
    """Gifts for a row with these loads, from 0 to the room, or None if there are none."""
    gifts, _ = _gifts_or_lot(row, loads)
    return gifts


def bar_for(yard, row, loads):
    """A lot that bars these loads, from 0 to the room, or None if there is none."""
    _, lot = _gifts_or_lot(row, loads)
    return lot


def _gifts_or_lot(row, loads):
    """Gifts with these loads, and None; or None, and a lot that bars the loads."""
    gifts = [None] * len(row)
    for house, load in enumerate(loads):
        for _ in range(load):
            moves, met = _moves_to(row, gifts, house)
            if moves is None:
                # All requests that name a house which is met are given to such houses, and these are too few.
                return None, tuple(sorted(met))
            for request, target in moves:
                gifts[request] = target
    return tuple(gifts), None


def _moves_to(row, gifts, house):
    """The pairs (request, house) by which a house gets one gift more, or None; and the houses that are met, a dict."""
    met = {house: None}
    waiting = [house]
    at = 0
    while at < len(waiting):
        target = waiting[at]
        at += 1
        for request, gift in enumerate(gifts):
            if gift in met or target not in row[request]:
                continue
            if gift is None:
                return _moves_back(met, request, target), met
            met[gift] = (request, target)
            waiting.append(gift)
    return None, met


def _moves_back(met, request, target):
    """A free request goes to its target, and what was led from there goes on, back to where it began."""
    moves = [(request, target)]
    while met[target] is not None:
        request, target = met[target]
        moves.append((request, target))
    return moves
