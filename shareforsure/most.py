"""The most that anybody gives of a row, and gifts that give it."""

from shareforsure.chains import chain_done, chain_from, gain


def best_gifts(yard, row):
    """Best gifts for a row, a tuple."""
    gifts, _ = _led_through(yard, row)
    return gifts


def most_given(yard, row):
    """The most of a row."""
    _, mosts = _led_through(yard, row)
    return mosts[-1] if mosts else 0


def most_so_far(yard, row):
    """The list of the mosts of a row so far, one behind each request."""
    _, mosts = _led_through(yard, row)
    return mosts


def _led_through(yard, row):
    """Best gifts for a row, and the list of its mosts so far.

    Gifts that were best stay so if each request that comes begins the chain with the greatest gain.
    """
    gifts = ()
    most = 0
    mosts = []
    for request in range(len(row)):
        gifts = gifts + (None,)
        chain = chain_from(yard, row, gifts, request)
        if chain is not None:
            most += gain(yard, gifts, chain)
            gifts = chain_done(gifts, chain)
        mosts.append(most)
    return gifts, mosts
