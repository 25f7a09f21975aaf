"""The refusals: one class for each."""


class ChooseError(ValueError):
    """What every refusal of this program is."""


class BadPrime(ChooseError):
    """What was handed in as a prime is none from 2 to 997."""


class BadMany(ChooseError):
    """What was handed in as many is no whole number from 0 on."""


class BadSome(ChooseError):
    """What was handed in as some is no whole number from 0 to many."""


class BadNumber(ChooseError):
    """What was handed in as a number is that of no free place of the row."""


class NotFree(ChooseError):
    """The prime goes into the ways at the place that was handed in."""
