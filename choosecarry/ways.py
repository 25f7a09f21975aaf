"""The ways of many and some: how often a prime goes into them, and what it leaves."""

from choosecarry.answers import Bound, Free
from choosecarry.reckoning import bound_places, check_pick, ways_of


def ways(prime, many, some):
    """How often the prime goes into the ways, and what their core leaves by it."""
    check_pick(prime, many, some)
    return ways_of(prime, many, some)


def told(prime, many, some):
    """A Free with what the ways leave by the prime, or a Bound with the lowest such place."""
    check_pick(prime, many, some)
    often, core = ways_of(prime, many, some)
    if often == 0:
        return Free(core)
    return Bound(bound_places(prime, many, some)[0])
