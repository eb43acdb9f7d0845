"""Rises of loads, pulls of houses, and the share that is sure."""


def power(base, times):
    """A number taken so many times as a factor."""
    product = 1
    for _ in range(times):
        product = product * base
    return product


def rise(c, load):
    """The rise of a load from 0 to c."""
    return power(c + 1, load) * power(c, c - load) - power(c, c)


def share(c):
    """The share of a room, the pair of D and E, in least form as c and c + 1 have no common divisor."""
    whole = power(c + 1, c)
    return whole - power(c, c), whole


def pull(yard, house, load):
    """The pull of a house with a load from 0 to the room: 0 if it has no room."""
    c, worths = yard
    return worths[house] * (rise(c, c) - rise(c, load))
