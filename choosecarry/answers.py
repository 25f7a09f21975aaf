"""The answers to whether a prime goes into the ways: Free or Bound."""

from choosecarry.reckoning import bound_places, is_pick, is_whole, ways_of


class Answer:
    """What is told of a prime, many and some."""


class Free(Answer):
    """The prime does not go into the ways: what they leave by it is the rest."""

    def __init__(self, rest):
        self.rest = rest

    def shows(self, prime, many, some):
        """Whether the prime does not go into the ways, and they leave just this rest."""
        if not is_pick(prime, many, some) or not is_whole(self.rest):
            return False
        return ways_of(prime, many, some) == (0, self.rest)


class Bound(Answer):
    """The prime goes into the ways: at the place the some's figure is the greater one."""

    def __init__(self, place):
        self.place = place

    def shows(self, prime, many, some):
        """Whether the some's figure is greater than the many's at just this place."""
        if not is_pick(prime, many, some) or not is_whole(self.place):
            return False
        return self.place in bound_places(prime, many, some)
