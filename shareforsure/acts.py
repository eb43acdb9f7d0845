"""Acts: with which word one cannot be done to a sheet, and the sheet that comes of one that can."""

from shareforsure.sheets import part_fault, request_fault, sheet_fault, yard_fault
from shareforsure.words import is_worded

MOST_PARTS = 30
ACT_MEMBERS = {"yard": 2, "put": 2, "drop": 2, "add": 3}


def act_fault(sheet, act):
    """The word with which an act, which may be anything, cannot be done to a sheet, or None if it can."""
    if not is_worded(dict(ACT_MEMBERS), act):
        return "form"
    judge = ACT_JUDGES[act[0]]
    return judge(sheet, act)


def sheet_behind(sheet, act):
    """The sheet that an act which can be done makes of a sheet."""
    make = ACT_MAKERS[act[0]]
    return make(sheet, act)


def _place_of(parts, name):
    """The place of the part with a name, which may be anything, or None if there is none."""
    for place, part in enumerate(parts):
        if part[1] == name:
            return place
    return None


def _yard_word(sheet, act):
    _, yard = act
    if yard_fault(yard) is not None:
        return "yard"
    return None if sheet_fault((yard, sheet[1])) is None else "fit"


def _put_word(sheet, act):
    yard, parts = sheet
    _, part = act
    if part_fault(yard, part, {}) is not None:
        return "part"
    return "many" if len(parts) >= MOST_PARTS and _place_of(parts, part[1]) is None else None


def _drop_word(sheet, act):
    return "name" if _place_of(sheet[1], act[1]) is None else None


def _add_word(sheet, act):
    yard, parts = sheet
    _, name, request = act
    place = _place_of(parts, name)
    if place is None:
        return "name"
    if parts[place][0] != "row":
        return "sort"
    return None if request_fault(yard, request) is None else "request"


def _yard_sheet(sheet, act):
    return act[1], sheet[1]


def _put_sheet(sheet, act):
    yard, parts = sheet
    _, part = act
    place = _place_of(parts, part[1])
    if place is None:
        return yard, parts + (part,)
    return yard, _parts_with(parts, place, part)


def _drop_sheet(sheet, act):
    yard, parts = sheet
    place = _place_of(parts, act[1])
    return yard, parts[:place] + parts[place + 1:]


def _add_sheet(sheet, act):
    yard, parts = sheet
    _, name, request = act
    place = _place_of(parts, name)
    word, name, row = parts[place]
    return yard, _parts_with(parts, place, (word, name, row + (request,)))


def _parts_with(parts, place, part):
    """Parts with another part in a place."""
    return parts[:place] + (part,) + parts[place + 1:]


ACT_JUDGES = {"yard": _yard_word, "put": _put_word, "drop": _drop_word, "add": _add_word}
ACT_MAKERS = {"yard": _yard_sheet, "put": _put_sheet, "drop": _drop_sheet, "add": _add_sheet}
