"""Promise 2: figures and product."""

import unittest

import own
from choosecarry.figures import figures, product


class Figures(own.QuickTest):
    def test_written_out(self):
        self.same(figures(2, 0), [])
        self.same(figures(2, 1), [1])
        self.same(figures(2, 6), [0, 1, 1])
        self.same(figures(3, 10), [1, 0, 1])
        self.same(figures(7, 48), [6, 6])
        self.same(figures(7, 49), [0, 0, 1])
        self.same(figures(997, 996), [996])
        self.same(figures(997, 997), [0, 1])
        self.same(figures(997, 997 * 997 - 1), [996, 996])

    def test_of_0_none(self):
        for prime in own.PRIMES:
            self.same(figures(prime, 0), [])

    def test_small_numbers(self):
        for prime in own.FEW_PRIMES:
            for many in range(1, 1100):
                self.same(figures(prime, many), own.plain_figures(prime, many))

    def test_about_powers(self):
        for prime in own.PRIMES:
            power = 1
            for places in range(1, 20):
                self.same(figures(prime, power), [0] * (places - 1) + [1])
                power *= prime
                self.same(figures(prime, power - 1), [prime - 1] * places)

    def test_great_numbers_again(self):
        for prime in own.FEW_PRIMES:
            for many in own.GREAT:
                told = figures(prime, many)
                self.same(told, own.plain_figures(prime, many))
                again = 0
                for figure in reversed(told):
                    self.assertTrue(0 <= figure < prime)
                    again = again * prime + figure
                self.assertEqual(again, many)
                self.assertNotEqual(told[-1], 0)


class Product(own.QuickTest):
    def test_written_out(self):
        self.same(product(2, 0), (0, 1))
        self.same(product(997, 0), (0, 1))
        self.same(product(2, 1), (0, 1))
        self.same(product(3, 3), (1, 2))
        self.same(product(5, 4), (0, 4))
        self.same(product(3, 10), (4, 44800 % 3))
        self.same(product(997, 996), (0, 996))
        self.same(product(997, 997), (1, 996))

    def test_all_numbers_multiplied(self):
        for prime in own.FEW_PRIMES:
            multiplied = 1
            for many in range(0, 300):
                multiplied *= max(many, 1)
                self.same(product(prime, many), own.parted(prime, multiplied))

    def test_a_prime_greater_than_many(self):
        for prime in own.PRIMES:
            left = 1
            for many in range(0, min(prime, 60)):
                left = left * max(many, 1) % prime
                self.same(product(prime, many), (0, left))

    def test_beyond_a_great_prime(self):
        for prime in (991, 997):
            often, core = 0, 1
            for many in range(1, 3 * prime):
                more, left = own.parted(prime, many)
                often, core = often + more, core * left % prime
                self.same(product(prime, many), (often, core))

    def test_great_numbers_step_by_step(self):
        for prime in own.FEW_PRIMES:
            for great in own.GREAT:
                # So that steps go over a number that the prime divides often, too.
                for start in (great, great - great % prime ** 5 - 2):
                    often, core = product(prime, start)
                    for many in range(start + 1, start + 5):
                        more, left = own.parted(prime, many)
                        often, core = often + more, core * left % prime
                        self.same(product(prime, many), (often, core))

    def test_how_often_in_great_numbers(self):
        for prime in own.FEW_PRIMES:
            for many in own.GREAT:
                often, rest = 0, many
                while rest:
                    rest //= prime
                    often += rest
                self.same(product(prime, many)[0], often)


if __name__ == "__main__":
    unittest.main()
