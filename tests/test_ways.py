"""Promises 2 and 3: ways and told."""

import math
import unittest

import own
from choosecarry.answers import Answer, Bound, Free
from choosecarry.ways import told, ways


class Ways(own.QuickTest):
    def test_written_out(self):
        self.same(ways(2, 0, 0), (0, 1))
        self.same(ways(997, 0, 0), (0, 1))
        self.same(ways(3, 10, 3), (1, 40 % 3))
        self.same(ways(5, 10, 5), (0, 252 % 5))
        self.same(ways(7, 10, 3), (0, 120 % 7))
        self.same(ways(2, 4, 2), (1, 1))
        self.same(ways(3, 9, 1), (2, 1))
        self.same(ways(3, 9, 3), (1, 28 % 3))

    def test_small_rows_by_sums(self):
        for prime in (2, 3, 5, 7, 11, 13):
            for many in range(0, 90):
                for some, count in enumerate(own.pascal(many)):
                    self.same(ways(prime, many, some), own.parted(prime, count))

    def test_rows_at_powers(self):
        for prime, many in ((2, 255), (2, 256), (3, 242), (3, 243), (5, 125), (7, 342)):
            for some, count in enumerate(own.pascal(many)):
                self.same(ways(prime, many, some), own.parted(prime, count))

    def test_rows_about_a_great_prime(self):
        for prime in (97, 991, 997):
            for many in (prime - 1, prime, prime + 1):
                for some, count in enumerate(own.pascal(many)):
                    self.same(ways(prime, many, some), own.parted(prime, count))

    def test_a_prime_greater_than_many(self):
        for prime in own.PRIMES:
            many = min(prime - 1, 40)
            for some, count in enumerate(own.pascal(many)):
                self.same(ways(prime, many, some), (0, count % prime))

    def test_none_and_all(self):
        for prime in own.FEW_PRIMES:
            for many in (*range(40), *own.GREAT):
                self.same(ways(prime, many, 0), (0, 1))
                self.same(ways(prime, many, many), (0, 1))

    def test_few_of_great_numbers(self):
        for prime in own.FEW_PRIMES:
            for many in own.GREAT:
                for some in (1, 2, 3, 7, 8, 9, 10, 27, 40):
                    due = own.parted(prime, math.comb(many, some))
                    self.same(ways(prime, many, some), due)
                    self.same(ways(prime, many, many - some), due)

    def test_carries_of_great_numbers(self):
        for prime in own.FEW_PRIMES:
            for many in own.GREAT:
                for some in (many // 2, many // 3, many * 5 // 7, many - many // 1000):
                    often, core = ways(prime, many, some)
                    self.same(often, own.carries(prime, some, many - some))
                    self.assertTrue(0 < core < prime)

    def test_the_next_place_of_great_rows(self):
        # The ways of the next place are those of this one times (many - some) by (some + 1).
        for prime in own.FEW_PRIMES:
            for many in own.GREAT:
                some = many // 3
                often, core = ways(prime, many, some)
                more, left = own.parted(prime, many - some)
                less, under = own.parted(prime, some + 1)
                core = core * left * pow(under, -1, prime) % prime
                self.same(ways(prime, many, some + 1), (often + more - less, core))


class Told(own.QuickTest):
    def check(self, prime, many, some, often, core):
        answer = told(prime, many, some)
        self.assertIsInstance(answer, Answer)
        if often == 0:
            self.assertIs(type(answer), Free)
            self.assertEqual(vars(answer), {"rest": core})
            self.assertIs(type(answer.rest), int)
        else:
            self.assertIs(type(answer), Bound)
            self.assertEqual(list(vars(answer)), ["place"])
            self.assertIs(type(answer.place), int)
            self.assertGreaterEqual(answer.place, 0)
            power = prime ** answer.place
            self.assertGreater(some // power % prime, many // power % prime)
        self.assertIs(answer.shows(prime, many, some), True)

    def test_small_rows(self):
        for prime in (2, 3, 5, 7, 11, 97):
            for many in range(0, 100):
                for some, count in enumerate(own.pascal(many)):
                    self.check(prime, many, some, *own.parted(prime, count))

    def test_a_row_of_a_great_prime(self):
        for many in (996, 997, 998):
            for some, count in enumerate(own.pascal(many)):
                self.check(997, many, some, *own.parted(997, count))

    def test_great_rows(self):
        for prime in own.FEW_PRIMES:
            for many in own.GREAT:
                for some in (0, 1, 2, 30, many - 1, many):
                    due = own.parted(prime, math.comb(many, min(some, many - some)))
                    self.check(prime, many, some, *due)
                for some in (many // 2, many // 3, many - many // 1000):
                    often = own.carries(prime, some, many - some)
                    self.check(prime, many, some, often, ways(prime, many, some)[1])


if __name__ == "__main__":
    unittest.main()
