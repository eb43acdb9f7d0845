"""Consoles: lines of text by which a desk is changed and asked."""

from shareforsure.acts import ACT_MEMBERS
from shareforsure.errors import BadAct, BadAsk, BadText, NothingDone, TooGreat, UnknownName
from shareforsure.lines import read_line
from shareforsure.sheettexts import gifts_text


class Console:
    """Reads lines for a desk, which changes by them."""

    def __init__(self, desk):
        self._desk = desk

    def answer(self, line):
        """Does and asks what a line, a string, tells: returns the answer, a string."""
        try:
            return _answer_to(self._desk, read_line(line))
        except BadText as misread:
            return f"no {misread.place}"
        except (BadAct, BadAsk) as refused:
            return f"no {refused.word}"
        except TooGreat:
            return "no great"
        except NothingDone:
            return "no nothing"
        except UnknownName:
            return "no mark"


def _answer_to(desk, told):
    """The answer to what a line tells; what is in its way is raised."""
    if told[0] in ACT_MEMBERS:
        desk.do(told)
        return "done"
    names = told[1:]
    tell = ANSWERS[told[0]]
    return tell(desk, *names)


def _fraction_text(fraction):
    if fraction is None:
        return "none"
    over, under = fraction
    return str(over) if under == 1 else f"{over}/{under}"


def _undo(desk):
    desk.undo()
    return "done"


def _redo(desk):
    desk.redo()
    return "done"


def _mark(desk, name):
    desk.mark(name)
    return "done"


def _since(desk, name):
    return str(desk.since(name))


def _most(desk, name):
    return str(desk.most(name))


def _told(desk, name):
    return str(desk.told(name))


def _quotient(desk, name):
    return _fraction_text(desk.quotient(name))


def _run(desk, name):
    return gifts_text(desk.run(name))


def _given(desk, row, gifts):
    return str(desk.given(row, gifts))


def _ran(desk, giver, row):
    return str(desk.ran(giver, row))


def _show(desk, row, gifts, cover):
    lacks = desk.show(row, gifts, cover)
    return "yes" if lacks is None else " ".join([str(member) for member in lacks])


def _least(desk, name):
    return _fraction_text(desk.least(name))


def _best(desk):
    return _fraction_text(desk.best())


def _parts(desk):
    _, parts = desk.sheet()
    return " ".join([part[1] for part in parts])


ANSWERS = {"undo": _undo, "redo": _redo, "mark": _mark, "since": _since, "most": _most, "told": _told,
           "quotient": _quotient, "run": _run, "given": _given, "ran": _ran, "show": _show, "least": _least,
           "best": _best, "parts": _parts}
