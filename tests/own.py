"""What several test files need: wrong values, great numbers, and an own, plain reckoning."""

import faulthandler
import unittest
from decimal import Decimal
from fractions import Fraction

PRIMES = [n for n in range(2, 998) if all(n % by for by in range(2, n))]
COMPOSITES = [n for n in range(4, 998) if n not in PRIMES]
FEW_PRIMES = [2, 3, 5, 7, 11, 13, 97, 991, 997]

FORTY = 7305198264419037752860412936815507429138
GREAT = [
    10 ** 39,
    FORTY,
    2 ** 131 - 1,
    2 ** 1000,
    3 ** 700 - 1,
    997 ** 150 + 996,
    10 ** 600 - 10 ** 299 + 12345,
    FORTY ** 9,
]


class Pretender:
    """Claims to be an integer, and fails when it is compared or reckoned with."""

    __class__ = int

    def __index__(self):
        return 2

    __int__ = __index__

    def fail(self, *others):
        raise RuntimeError("touched")

    __eq__ = __lt__ = __le__ = __gt__ = __ge__ = fail
    __bool__ = __hash__ = __repr__ = __str__ = __mod__ = __rmod__ = fail


class Secretive:
    """Does not even tell its class."""

    @property
    def __class__(self):
        raise RuntimeError("touched")


WRONG = [
    True, False, None, "", "2", "two", b"", b"2", 2.0, 0.5, 0.0, -1.5,
    float("nan"), float("inf"), 2 + 0j, Fraction(2), Fraction(1, 2), Decimal(2),
    [], [2], (), (2,), (2, 3), {}, {2: 2}, set(), {2}, frozenset(), range(2), bytearray(b"2"),
    object(), Pretender(), Secretive(), int, object, Pretender, len, lambda: 2,
    iter([2]), NotImplemented, Ellipsis,
]
NO_PRIMES = WRONG + COMPOSITES + [
    -997, -3, -2, -1, 0, 1, 998, 999, 1000, 1009, 10007, 2 ** 61 - 1, 2 ** 521 - 1,
    -10 ** 40, 10 ** 40, 10 ** 5000,
]
BELOW_NOUGHT = [-1, -2, -997, -10 ** 40, -10 ** 5000]
NO_MANY = WRONG + BELOW_NOUGHT


def plain_figures(prime, many):
    found = []
    while many:
        found.append(many % prime)
        many //= prime
    return found


def parted(prime, number):
    """How often the prime goes into a number above 0, and what its core leaves by it."""
    often = 0
    while number % prime == 0:
        number //= prime
        often += 1
    return (often, number % prime)


def pascal(many):
    """All ways of the row of many, by sums."""
    row = [1]
    for _ in range(many):
        row = [1] + [a + b for a, b in zip(row, row[1:])] + [1]
    return row


def carries(prime, one, other):
    """How many carries come when two numbers are added figure by figure."""
    count = carry = 0
    while one or other or carry:
        carry = int(one % prime + other % prime + carry >= prime)
        count += carry
        one //= prime
        other //= prime
    return count


def is_free(prime, many, some):
    """Whether no figure of some is greater than the one of many."""
    while some:
        if some % prime > many % prime:
            return False
        some //= prime
        many //= prime
    return True


class QuickTest(unittest.TestCase):
    """Ends the whole run where a test waits: nothing here may take long."""

    SECONDS = 120

    def setUp(self):
        faulthandler.dump_traceback_later(self.SECONDS, exit=True)

    def tearDown(self):
        faulthandler.cancel_dump_traceback_later()

    def same(self, told, due):
        """Equal, and of the very same kinds throughout."""
        self.assertEqual(told, due)
        self.assertIs(type(told), type(due))
        if isinstance(due, (list, tuple)):
            for one, other in zip(told, due):
                self.same(one, other)
