"""Players: they make a row by what a giver did so far, such that little of it is given."""

from shareforsure.errors import BadGift
from shareforsure.gifts import is_let
from shareforsure.rises import power


class SizedPlayer:
    """The player with some sizes: asks a request, is told its gift, and goes on."""

    def __init__(self, c, sizes):
        self._c = c
        self._sizes = sizes
        self._loads = [0] * sizes[0]
        self._phase = 0
        self._named = tuple(range(sizes[0]))
        self._left = phase_many(c, sizes, 0)

    def asks(self):
        """The request that it asks, or None if the play is over."""
        return self._named if self._left > 0 else None

    def lets(self, gift):
        """Whether a gift, which may be anything, is one for the request that it asks."""
        return is_let(self._c, self._loads, self._named, gift)

    def told(self, gift):
        """Goes on by a gift for the request that it asks."""
        if gift is not None:
            self._loads[gift] += 1
        self._left -= 1
        if self._left == 0 and self._phase + 1 < len(self._sizes):
            self._begin_next()

    def _begin_next(self):
        self._phase += 1
        self._left = phase_many(self._c, self._sizes, self._phase)
        fullest = sorted([(-self._loads[house], house) for house in self._named])
        self._named = tuple(sorted([house for _, house in fullest[:self._sizes[self._phase]]]))


def phase_many(c, sizes, phase):
    """How many requests a phase has."""
    behind = sizes[phase + 1] if phase + 1 < len(sizes) else 0
    return c * (sizes[phase] - behind)


def player_sizes(c):
    """The sizes of the player for c, a tuple."""
    return tuple([power(c + 1, c - phase) * power(c, phase) for phase in range(c + 1)])


def levels(c, sizes):
    """The levels of sizes, a tuple."""
    found = [0]
    for size, behind in zip(sizes, sizes[1:]):
        found.append(_level_behind(c, found[-1], size, behind))
    return tuple(found)


def bound_of(c, sizes):
    """The bound of sizes: at most as many are given in a play."""
    return c * sizes[0] - levels(c, sizes)[-1]


def best_sizes(c, n):
    """Sizes for n houses with the least bound, a tuple."""
    greatest = {n: 0}
    ahead = {n: None}
    for size in range(n, 1, -1):
        for behind in range(1, size):
            level = _level_behind(c, greatest[size], size, behind)
            if behind not in greatest or level > greatest[behind]:
                greatest[behind] = level
                ahead[behind] = size
    last = max(list(greatest), key=lambda size: greatest[size])
    sizes = []
    while last is not None:
        sizes.append(last)
        last = ahead[last]
    return tuple(sizes[::-1])


def play(c, sizes, giver):
    """The play of the player with some sizes against a giver: a row and gifts; raises BadGift if one is none."""
    player = SizedPlayer(c, sizes)
    row = []
    gifts = []
    while player.asks() is not None:
        request = player.asks()
        gift = giver.give(request)
        if not player.lets(gift):
            raise BadGift(len(row))
        player.told(gift)
        row.append(request)
        gifts.append(gift)
    return tuple(row), tuple(gifts)


def _level_behind(c, level, size, behind):
    """The level of the phase with a size behind one with a level and a size."""
    full, rest = divmod(level + c * (size - behind), size)
    return full * behind + min(rest, behind)
