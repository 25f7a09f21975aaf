"""What the other files share: what is let by, and the reckoning by figures.

The reckoning takes for granted that what it is passed is let by.
"""

from math import isqrt

from choosecarry.errors import BadMany, BadPrime, BadSome

GREATEST_PRIME = 997


def is_whole(worth):
    """Whether this is a whole number, of any sign."""
    # isinstance would let by True and False and whatever only claims to be an integer.
    return type(worth) is int


def is_prime(worth):
    """Whether this is a prime from 2 to 997."""
    if not is_whole(worth) or not 2 <= worth <= GREATEST_PRIME:
        return False
    return all([worth % by != 0 for by in range(2, isqrt(worth) + 1)])


def is_between(worth, low, high):
    """Whether this is a whole number from low to high."""
    return is_whole(worth) and low <= worth <= high


def is_many(worth):
    """Whether this is a whole number from 0 on."""
    return is_whole(worth) and worth >= 0


def is_pick(prime, many, some):
    """Whether these are a prime, many and some of it."""
    return is_prime(prime) and is_many(many) and is_between(some, 0, many)


# The messages do not show what was handed in: Python refuses to write out very long numbers.


def check_row(prime, many):
    """Refuse what is no prime, then what is no many."""
    if not is_prime(prime):
        raise BadPrime("a prime is a prime number from 2 to 997")
    if not is_many(many):
        raise BadMany("many is a whole number from 0 on")


def check_pick(prime, many, some):
    """Refuse what is no prime, then what is no many, then what is no some of it."""
    check_row(prime, many)
    if not is_between(some, 0, many):
        raise BadSome("some is a whole number from 0 to many")


def paired(row):
    """Every two neighbours of the row multiplied; a last one without a neighbour as it is."""
    products = [row[at] * row[at + 1] for at in range(0, len(row) - 1, 2)]
    return products + row[len(products) * 2:]


def towers(bases):
    """The row of bases, the row of its pairs multiplied, and so on up to a row of one.

    Numbers are taken apart and put together by halves along these rows: one figure
    after the other would take too long for great numbers.
    """
    rows = [bases]
    while len(rows[-1]) > 1:
        rows.append(paired(rows[-1]))
    return rows


def taken_apart(number, rows):
    """The number's figures, the lowest first, where each place has a base of its own."""
    parts = [number]
    for row in reversed(rows[:-1]):
        halves = []
        for at, part in enumerate(parts):
            if at * 2 + 1 < len(row):
                halves.append(part % row[at * 2])
                halves.append(part // row[at * 2])
            else:
                halves.append(part)
        parts = halves
    return parts


def put_together(figures, rows):
    """The number of these figures, the lowest first: taken_apart the other way round."""
    parts = figures
    for row in rows[:-1]:
        joined = [parts[at] + parts[at + 1] * row[at] for at in range(0, len(row) - 1, 2)]
        parts = joined + parts[len(joined) * 2:]
    return parts[0]


def figures_of(prime, many):
    """The figures of many by the prime, the lowest first; of 0 none."""
    # The prime is at least 2 to the bits, so that this many places are always enough.
    bits = prime.bit_length() - 1
    places = (many.bit_length() + bits - 1) // bits
    found = taken_apart(many, towers([prime] * places))
    while found and found[-1] == 0:
        found.pop()
    return found


def products_left(prime):
    """What all numbers from 1 to each number below the prime, multiplied, leave by it."""
    left = [1]
    for factor in range(1, prime):
        left.append(left[-1] * factor % prime)
    return left


def product_of(prime, many):
    """How often the prime goes into 1 to many multiplied, and what the core leaves by it."""
    figures = figures_of(prime, many)
    often = (many - sum(figures)) // (prime - 1)
    left = products_left(prime)
    # All numbers below the prime, multiplied, leave -1 by it: once for each time it goes in.
    core = 1 if often % 2 == 0 else prime - 1
    for figure in figures:
        core = core * left[figure] % prime
    return (often, core)


def inverse(number, prime):
    """What leaves 1 by the prime when multiplied with a number that it does not go into."""
    # The number to the (prime - 1) leaves 1, so one factor less is the inverse.
    found = 1
    square = number
    left = prime - 2
    while left > 0:
        if left % 2 == 1:
            found = found * square % prime
        square = square * square % prime
        left = left // 2
    return found


def ways_of(prime, many, some):
    """How often the prime goes into the ways, and what their core leaves by it."""
    often, core = product_of(prime, many)
    some_often, some_core = product_of(prime, some)
    rest_often, rest_core = product_of(prime, many - some)
    core = core * inverse(some_core * rest_core % prime, prime) % prime
    return (often - some_often - rest_often, core)


def bound_places(prime, many, some):
    """The places, rising, at which the some's figure is greater than the many's."""
    # Some is no greater than many, so that it has no figure where many has none.
    pairs = list(zip(figures_of(prime, many), figures_of(prime, some)))
    return [at for at, (high, low) in enumerate(pairs) if low > high]
