"""Ways from gifts to others for the same row, and what comes of doing some of them."""

from shareforsure.words import is_number


def ways_between(one, other):
    """Ways from gifts to others for the same row, a tuple."""
    turned = _turned(one, other)
    behind = _links(one, other, turned)
    followers = {request: True for request in behind.values()}
    ways = [_way_from(request, behind) for request in turned if request not in followers]
    met = {request: True for way in ways for request in way}
    for request in turned:
        # What no open way has met stands in a ring, which may begin anywhere.
        if request not in met:
            ring = _way_from(request, behind)
            ways.append(ring)
            met.update({member: True for member in ring})
    return tuple(ways)


def done(one, other, ways):
    """The gifts that come of doing some ways from the one to the other, a tuple."""
    gifts = list(one)
    for way in ways:
        for request in way:
            gifts[request] = other[request]
    return tuple(gifts)


def steps_along(one, other, ways):
    """The list of the gifts that come of doing the first way, the first two, and so on."""
    steps = []
    gifts = one
    for way in ways:
        gifts = done(gifts, other, (way,))
        steps.append(gifts)
    return steps


def judge_ways(one, other, value):
    """None if a value, which may be anything, is ways from the one to the other, and otherwise its first fault."""
    if not _is_form(len(one), value):
        return ("form",)
    fault = _request_fault(one, other, value)
    if fault is None:
        fault = _link_fault(one, other, value)
    if fault is None:
        fault = _house_fault(one, other, value)
    return fault


def _turned(one, other):
    """The ascending list of the requests in which two gifts differ."""
    return [request for request in range(len(one)) if one[request] != other[request]]


def _links(one, other, turned):
    """The dict from turned requests to those that follow them.

    At each house the k-th request that it gets is followed by the k-th one that it gives away.
    """
    leaving = {}
    for request in turned:
        leaving.setdefault(one[request], []).append(request)
    paired = {house: 0 for house in leaving}
    behind = {}
    for request in turned:
        house = other[request]
        if house is not None and house in leaving and paired[house] < len(leaving[house]):
            behind[request] = leaving[house][paired[house]]
            paired[house] += 1
    return behind


def _way_from(request, behind):
    """The way that begins with a request, and goes on until nothing follows, or the request itself."""
    way = [request]
    while behind.get(way[-1], request) != request:
        way.append(behind[way[-1]])
    return tuple(way)


def _is_form(many, value):
    if not isinstance(value, tuple):
        return False
    return all([_is_way_form(many, way) for way in value])


def _is_way_form(many, value):
    if not isinstance(value, tuple) or value == ():
        return False
    return all([is_number(request) and request < many for request in value])


def _request_fault(one, other, ways):
    times = [0] * len(one)
    for way in ways:
        for request in way:
            times[request] += 1
    for request, many in enumerate(times):
        if many != (0 if one[request] == other[request] else 1):
            return ("request", request)
    return None


def _link_fault(one, other, ways):
    for number, way in enumerate(ways):
        for at in range(1, len(way)):
            house = other[way[at - 1]]
            if house is None or house != one[way[at]]:
                return ("link", number, at)
    return None


def _house_fault(one, other, ways):
    ends = [(one[way[0]], other[way[-1]]) for way in ways]
    # A way that ends where it begins, at a house, is a ring; None is no house.
    beginnings = {first: True for first, last in ends if first is not None and first != last}
    endings = {last: True for first, last in ends if last is not None and first != last}
    for house in sorted(beginnings):
        if house in endings:
            return ("house", house)
    return None
