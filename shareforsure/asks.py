"""Days: the events of an office, and what is wrong in them first."""

from shareforsure.errors import BadTree
from shareforsure.words import is_name, is_worded

EVENT_MEMBERS = {"come": 2, "fall": 2, "ask": 3}


def check_day(names, value):
    """Raises BadTree with the first wrong part if a value, which may be anything, is no day for some houses' names."""
    if not isinstance(value, tuple):
        raise BadTree(())
    houses = {name: True for name in names}
    asked = {}
    for number, event in enumerate(value):
        fault = _event_fault(houses, asked, event)
        if fault is not None:
            raise BadTree((number,) + fault)
        if event[0] == "ask":
            asked[event[1]] = True


def _event_fault(houses, asked, value):
    """The path to the first wrong part of an event behind those that asked some requests, or None if all is right."""
    if not is_worded(dict(EVENT_MEMBERS), value):
        return ()
    if value[0] == "ask":
        return _ask_fault(houses, asked, value)
    return None if _is_among(houses, value[1]) else (1,)


def _ask_fault(houses, asked, ask):
    _, request, named = ask
    if not is_name(request) or request in asked:
        return (1,)
    if not isinstance(named, tuple):
        return (2,)
    for at, house in enumerate(named):
        if not _is_among(houses, house):
            return (2, at)
    return None


def _is_among(houses, value):
    """Whether a value, which may be anything, is the name of a house."""
    return isinstance(value, str) and value in houses
