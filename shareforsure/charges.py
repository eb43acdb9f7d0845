"""Charge papers: what others give is charged to gifts with more room, request by request."""

from shareforsure.gifts import held_of
from shareforsure.words import are_numbers, is_number, is_tuple_of


def charge_paper(yard, m, row, gifts, others):
    """A charge paper for gifts with m times the room and others, or None if there is none."""
    held = held_of(yard, gifts)
    used = [0] * len(held)
    paper = []
    for request, house in enumerate(others):
        if house is None:
            paper.append(None)
        elif _pays_itself(yard, gifts[request], house):
            paper.append(request)
        else:
            begin = used[house]
            used[house] += m
            paper.append(tuple(held[house][begin:begin + m]))
    # Whoever can pay for itself uses up nothing, so if these are too few, all are.
    return tuple(paper) if all([len(have) >= many for have, many in zip(held, used)]) else None


def judge_charges(yard, m, row, gifts, others, value):
    """None if a value, which may be anything, is a charge paper for gifts and others, and otherwise its first fault."""
    if not is_tuple_of(len(row), value) or not all([_is_charge_form(m, len(row), charge) for charge in value]):
        return ("form",)
    fault = _none_fault(others, value)
    if fault is None:
        fault = _own_fault(yard, gifts, others, value)
    if fault is None:
        fault = _full_fault(gifts, others, value)
    if fault is None:
        fault = _twice_fault(value)
    return fault


def _pays_itself(yard, gift, house):
    """Whether a request's gift is a house of at least the worth of that to which the others give it."""
    worths = yard[1]
    return gift is not None and worths[gift] >= worths[house]


def _is_charge_form(m, many, value):
    """Whether a value has the form of a member of a paper for so many requests."""
    if value is None:
        return True
    if not isinstance(value, tuple):
        return is_number(value) and value < many
    if not are_numbers(value, m) or not all([request < many for request in value]):
        return False
    return all([first < second for first, second in zip(value, value[1:])])


def _none_fault(others, paper):
    for request, (house, charge) in enumerate(zip(others, paper)):
        if (house is None) != (charge is None):
            return ("none", request)
    return None


def _own_fault(yard, gifts, others, paper):
    for request, charge in enumerate(paper):
        if is_number(charge) and (charge != request or not _pays_itself(yard, gifts[request], others[request])):
            return ("own", request)
    return None


def _full_fault(gifts, others, paper):
    for request, charge in enumerate(paper):
        if isinstance(charge, tuple) and any([gifts[member] != others[request] for member in charge]):
            return ("full", request)
    return None


def _twice_fault(paper):
    times = [0] * len(paper)
    for charge in paper:
        members = charge if isinstance(charge, tuple) else ()
        for request in members:
            times[request] += 1
    for request, many in enumerate(times):
        if many > 1:
            return ("twice", request)
    return None
