"""Households: houses with names, that are here or away, and their loads."""

from shareforsure.errors import BadAct, UnknownName


class Household:
    """A yard whose houses have names, come and fall, and are taken; all are away at first."""

    def __init__(self, yard, names):
        self._yard = yard
        self._names = tuple(names)
        self._numbers = {name: number for number, name in enumerate(self._names)}
        self._are_here = [False for _ in self._names]
        self._loads = [0 for _ in self._names]

    def yard(self):
        """Its yard."""
        return self._yard

    def names(self):
        """The list of the names, by the numbers of their houses."""
        return list(self._names)

    def name_of(self, number):
        """The name of the house with a number."""
        return self._names[number]

    def number_of(self, name):
        """The number of the house with a name, which may be anything."""
        # Names are strings, and what is none may be nothing that can be looked for in a dict.
        if not isinstance(name, str) or name not in self._numbers:
            raise UnknownName(name)
        return self._numbers[name]

    def worth_of(self, name):
        """The worth of the house with a name, which may be anything."""
        return self._yard[1][self.number_of(name)]

    def is_here(self, name):
        """Whether the house with a name, which may be anything, is here."""
        return self._are_here[self.number_of(name)]

    def room_of(self, name):
        """How often the house with a name, which may be anything, can still be taken."""
        return self._yard[0] - self._loads[self.number_of(name)]

    def come(self, name):
        """A house that is away is here then."""
        number = self.number_of(name)
        if self._are_here[number]:
            raise BadAct("here")
        self._are_here[number] = True

    def fall(self, name):
        """A house that is here is away then; its load stays."""
        number = self.number_of(name)
        if not self._are_here[number]:
            raise BadAct("away")
        self._are_here[number] = False

    def here(self):
        """The ascending list of the numbers of the houses that are here."""
        return [number for number, is_here in enumerate(self._are_here) if is_here]

    def loads(self):
        """The tuple of the loads."""
        return tuple(self._loads)

    def seen(self, names):
        """The request of those houses of a list of names, which may be anything, that are here."""
        told = {self.number_of(name): True for name in names}
        return tuple([number for number in self.here() if number in told])

    def take(self, name):
        """The load of a house that is here and has room becomes greater by 1."""
        number = self.number_of(name)
        if not self._are_here[number]:
            raise BadAct("away")
        if self._loads[number] == self._yard[0]:
            raise BadAct("full")
        self._loads[number] += 1
