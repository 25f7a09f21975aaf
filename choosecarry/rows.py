"""Rows: the free places of a row of many, and their numbers.

A place is free just if none of its figures is greater than the many's figure there.
So the free places, rising, count as figures do, with a base of its own for each place:
one more than the many's figure.
"""

from choosecarry.errors import BadNumber, NotFree
from choosecarry.reckoning import bound_places, check_pick, check_row, figures_of
from choosecarry.reckoning import is_between, put_together, taken_apart, towers


def row_towers(prime, many):
    """The towers of how many figures are free at each place, up to how many places are."""
    choices = [figure + 1 for figure in figures_of(prime, many)]
    # A row of 0 has no figures, but one place.
    return towers(choices or [1])


def free(prime, many):
    """How many places of the row are free."""
    check_row(prime, many)
    return row_towers(prime, many)[-1][0]


def most(prime, many):
    """The greatest number of times that the prime goes into the ways at any place."""
    check_row(prime, many)
    # No carry comes from the last figure's place, nor from one where many's figure and all
    # below it are one less than the prime: these are the lowest zeros of many + 1. From all
    # other places carries can come at once, as all figures of some may be the greatest.
    figures = figures_of(prime, many + 1)
    lowest = 0
    while figures[lowest] == 0:
        lowest += 1
    return len(figures) - 1 - lowest


def place_by(prime, many, number):
    """The free place of this number, counted rising from 0 on."""
    check_row(prime, many)
    rows = row_towers(prime, many)
    if not is_between(number, 0, rows[-1][0] - 1):
        raise BadNumber("a number is a whole one from 0 to one less than there are free places")
    figures = taken_apart(number, rows)
    return put_together(figures, towers([prime] * len(figures)))


def number_of(prime, many, some):
    """The number of this free place, counted rising from 0 on."""
    check_pick(prime, many, some)
    if bound_places(prime, many, some):
        raise NotFree("the prime goes into the ways at this place")
    rows = row_towers(prime, many)
    figures = figures_of(prime, some)
    behind = [0] * (len(rows[0]) - len(figures))
    return put_together(figures + behind, rows)
