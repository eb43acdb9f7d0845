"""Yards, rows, tables and sheets: what is wrong in them first, and the parts of a sheet.

A fault is the path to the first wrong part of a value, () for the value itself, or None if all is right.
"""

from shareforsure.errors import BadTree, UnknownName
from shareforsure.gifts import is_let
from shareforsure.words import is_name, is_number, is_tuple_of

PART_WORDS = ("row", "gifts", "cover", "giver")


def check_yard(value):
    """Raises BadTree with the first wrong part if a value, which may be anything, is no yard."""
    _raise_fault(yard_fault(value))


def check_row(yard, value):
    """Raises BadTree with the first wrong part if a value, which may be anything, is no row of a yard."""
    _raise_fault(_row_fault(yard, value))


def check_table(yard, value):
    """Raises BadTree with the first wrong part if a value, which may be anything, is no table of a yard."""
    _raise_fault(_table_fault(yard, value))


def check_sheet(value):
    """Raises BadTree with the first wrong part if a value, which may be anything, is no sheet."""
    _raise_fault(sheet_fault(value))


def part_named(sheet, name):
    """The part of a sheet with a name, which may be anything."""
    for part in sheet[1]:
        if part[1] == name:
            return part
    raise UnknownName(name)


def names_of(sheet, word):
    """The list of the names of all parts of a sheet with one of the four words."""
    return [part[1] for part in sheet[1] if part[0] == word]


def _raise_fault(fault):
    if fault is not None:
        raise BadTree(fault)


def _is_at_least_one(value):
    return is_number(value) and value >= 1


def _members_fault(values, member_fault):
    """The fault of a value that should be a tuple, by a function that tells the fault of a member."""
    if not isinstance(values, tuple):
        return ()
    for at, value in enumerate(values):
        fault = member_fault(value)
        if fault is not None:
            return (at,) + fault
    return None


def _whole_fault(is_right):
    """The fault of what is looked at as a whole."""
    return None if is_right else ()


def yard_fault(value):
    """The fault of what should be a yard."""
    if not is_tuple_of(2, value):
        return ()
    c, worths = value
    if not _is_at_least_one(c):
        return (0,)
    if worths == ():
        return (1,)
    fault = _members_fault(worths, lambda worth: _whole_fault(_is_at_least_one(worth)))
    return None if fault is None else (1,) + fault


def request_fault(yard, value):
    """The fault of what should be a request of a yard."""
    if not isinstance(value, tuple):
        return ()
    least = 0
    for at, house in enumerate(value):
        if not is_number(house) or not least <= house < len(yard[1]):
            return (at,)
        least = house + 1
    return None


def _row_fault(yard, value):
    return _members_fault(value, lambda request: request_fault(yard, request))


def loads_fault(yard, value):
    """The fault of what should be loads of a yard."""
    c, worths = yard
    if not is_tuple_of(len(worths), value):
        return ()
    return _members_fault(value, lambda load: _whole_fault(is_number(load) and load <= c))


def _case_fault(yard, value):
    """The fault of what should be a pair of loads and a request."""
    if not is_tuple_of(2, value):
        return ()
    loads, request = value
    fault = loads_fault(yard, loads)
    if fault is not None:
        return (0,) + fault
    fault = request_fault(yard, request)
    return None if fault is None else (1,) + fault


def _entry_fault(yard, value, before):
    """The fault of a pair of a table, behind a case, or None for the first pair."""
    if not is_tuple_of(2, value):
        return ()
    case, gift = value
    fault = _case_fault(yard, case)
    if fault is not None:
        return (0,) + fault
    if before is not None and case <= before:
        return (0,)
    loads, request = case
    return None if is_let(yard[0], loads, request, gift) else (1,)


def _table_fault(yard, value):
    if not isinstance(value, tuple):
        return ()
    before = None
    for at, entry in enumerate(value):
        fault = _entry_fault(yard, entry, before)
        if fault is not None:
            return (at,) + fault
        before = entry[0]
    return None


def _gifts_fault(yard, value):
    houses = len(yard[1])
    return _members_fault(value, lambda gift: _whole_fault(gift is None or (is_number(gift) and gift < houses)))


def _cover_fault(value):
    if not is_tuple_of(2, value):
        return ()
    return _members_fault(value, _numbers_fault)


def _numbers_fault(value):
    return _members_fault(value, lambda number: _whole_fault(is_number(number)))


def _value_fault(yard, word, value):
    """The fault of the value of a part with one of the four words."""
    if word == "row":
        return _row_fault(yard, value)
    if word == "gifts":
        return _gifts_fault(yard, value)
    if word == "cover":
        return _cover_fault(value)
    return _table_fault(yard, value)


def part_fault(yard, value, earlier):
    """The fault of a part, earlier being a dict with the names of the parts ahead."""
    if not is_tuple_of(3, value):
        return ()
    word, name, told = value
    if word not in PART_WORDS:
        return (0,)
    if not is_name(name) or name in earlier:
        return (1,)
    fault = _value_fault(yard, word, told)
    return None if fault is None else (2,) + fault


def _parts_fault(yard, value):
    if not isinstance(value, tuple):
        return ()
    earlier = {}
    for at, part in enumerate(value):
        fault = part_fault(yard, part, earlier)
        if fault is not None:
            return (at,) + fault
        earlier[part[1]] = True
    return None


def sheet_fault(value):
    """The fault of what should be a sheet."""
    if not is_tuple_of(2, value):
        return ()
    yard, parts = value
    fault = yard_fault(yard)
    if fault is not None:
        return (0,) + fault
    fault = _parts_fault(yard, parts)
    return None if fault is None else (1,) + fault
