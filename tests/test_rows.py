"""Promise 4: free places, their numbers, and the most of a row."""

import unittest

import own
from choosecarry.errors import NotFree
from choosecarry.rows import free, most, number_of, place_by
from choosecarry.ways import ways


class Rows(own.QuickTest):
    def check_row(self, prime, many):
        oftens = [own.parted(prime, count)[0] for count in own.pascal(many)]
        places = [some for some, often in enumerate(oftens) if often == 0]
        self.same(free(prime, many), len(places))
        self.same(most(prime, many), max(oftens))
        for number, place in enumerate(places):
            self.same(place_by(prime, many, number), place)
            self.same(number_of(prime, many, place), number)
        for some, often in enumerate(oftens):
            if often:
                with self.assertRaises(NotFree):
                    number_of(prime, many, some)

    def test_written_out(self):
        self.same(free(2, 0), 1)
        self.same(most(2, 0), 0)
        self.same(place_by(2, 0, 0), 0)
        self.same(number_of(2, 0, 0), 0)
        self.same(free(3, 10), 4)
        self.same(most(3, 10), 2)
        self.same([place_by(3, 10, number) for number in range(4)], [0, 1, 9, 10])
        self.same([number_of(3, 10, some) for some in (0, 1, 9, 10)], [0, 1, 2, 3])

    def test_small_rows(self):
        for prime in (2, 3, 5, 7, 11, 13):
            for many in range(0, 130):
                self.check_row(prime, many)

    def test_rows_about_powers(self):
        for prime, many in ((2, 255), (2, 256), (3, 242), (3, 243), (5, 124), (7, 343)):
            self.check_row(prime, many)

    def test_rows_of_great_primes(self):
        for prime in (97, 991, 997):
            for many in (0, 1, 60, prime - 1, prime, prime + 1):
                self.check_row(prime, many)

    def test_most_by_carries(self):
        for prime in (2, 3, 5, 7):
            for many in range(130, 420, 7):
                due = max(own.carries(prime, some, many - some) for some in range(many + 1))
                self.same(most(prime, many), due)


class GreatRows(own.QuickTest):
    def test_how_many(self):
        for prime in own.FEW_PRIMES:
            for many in own.GREAT:
                due = 1
                for figure in own.plain_figures(prime, many):
                    due *= figure + 1
                self.same(free(prime, many), due)

    def test_first_last_and_between(self):
        for prime in own.FEW_PRIMES:
            for many in own.GREAT:
                last = free(prime, many) - 1
                self.same(place_by(prime, many, 0), 0)
                self.same(place_by(prime, many, last), many)
                self.same(number_of(prime, many, 0), 0)
                self.same(number_of(prime, many, many), last)
                before = -1
                numbers = {last * part // 12 for part in range(13)}
                numbers |= {min(number, last) for number in (1, 2, 3)} | {max(last - 1, 0)}
                for number in sorted(numbers):
                    place = place_by(prime, many, number)
                    self.assertGreater(place, before)
                    self.assertTrue(own.is_free(prime, many, place))
                    self.same(number_of(prime, many, place), number)
                    before = place

    def test_numbers_in_great_rows(self):
        # Counted another way: the free places below, one figure after the other.
        for prime in own.FEW_PRIMES:
            for many in own.GREAT:
                some = place_by(prime, many, free(prime, many) // 3)
                due, weight = 0, 1
                for figure in own.plain_figures(prime, many):
                    due += some % prime * weight
                    weight *= figure + 1
                    some //= prime
                self.same(free(prime, many) // 3, due)

    def test_places_that_are_not_free(self):
        for prime in own.FEW_PRIMES:
            for many in own.GREAT:
                for some in (many // 2, many // 3, many // 7 * 3, many - 1, 1):
                    if own.is_free(prime, many, some):
                        number = number_of(prime, many, some)
                        self.same(place_by(prime, many, number), some)
                    else:
                        with self.assertRaises(NotFree):
                            number_of(prime, many, some)

    def test_most(self):
        for prime in own.FEW_PRIMES:
            for great in own.GREAT:
                length = len(own.plain_figures(prime, great))
                for many in (great, great + 1, prime ** length - 1, prime ** length,
                             2 * prime ** (length - 1) - 1):
                    # Some of none but the greatest figures, one place shorter, has all carries.
                    places = len(own.plain_figures(prime, many)) - 1
                    told = most(prime, many)
                    self.same(told, own.carries(
                        prime, prime ** places - 1, many - prime ** places + 1))
                    for some in (many // 2, many // 3, many - many // 5, 1, 0):
                        self.assertLessEqual(ways(prime, many, some)[0], told)


if __name__ == "__main__":
    unittest.main()
