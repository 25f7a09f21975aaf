"""Figures of a number by a prime, and the prime in all numbers multiplied."""

from choosecarry.reckoning import check_row, figures_of, product_of


def figures(prime, many):
    """The figures of many by the prime, as a list, the lowest first; of 0 none."""
    check_row(prime, many)
    return figures_of(prime, many)


def product(prime, many):
    """How often the prime goes into 1 to many multiplied, and what the core leaves by it."""
    check_row(prime, many)
    return product_of(prime, many)
