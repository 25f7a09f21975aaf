"""Promise 1: what is refused, by which error, and which refusal is told first."""

import itertools
import unittest

import own
from choosecarry import errors
from choosecarry.figures import figures, product
from choosecarry.rows import free, most, number_of, place_by
from choosecarry.ways import told, ways

BadPrime, BadMany = errors.BadPrime, errors.BadMany
BadSome, BadNumber, NotFree = errors.BadSome, errors.BadNumber, errors.NotFree

OF_ROWS = [figures, product, free, most]
OF_PICKS = [ways, told, number_of]
ALL = OF_ROWS + OF_PICKS + [place_by]


class Refusals(own.QuickTest):
    def refused(self, kind, function, *values):
        try:
            function(*values)
        except Exception as error:
            self.assertIs(type(error), kind, function.__name__)
        else:
            self.fail(f"{function.__name__} refused nothing, {kind.__name__} is due")

    def fitting(self, function):
        """Values that the function lets by."""
        return [2, 5] if function in OF_ROWS else [2, 5, 0]

    def test_the_classes(self):
        self.assertEqual(errors.ChooseError.__bases__, (ValueError,))
        for kind in (BadPrime, BadMany, BadSome, BadNumber, NotFree):
            self.assertEqual(kind.__bases__, (errors.ChooseError,))

    def test_no_primes(self):
        for function in ALL:
            rest = self.fitting(function)[1:]
            for wrong in own.NO_PRIMES:
                self.refused(BadPrime, function, wrong, *rest)

    def test_all_primes_are_let_by(self):
        self.assertEqual(len(own.PRIMES), 168)
        for function in ALL:
            rest = self.fitting(function)[1:]
            for prime in own.PRIMES:
                function(prime, *rest)

    def test_no_many(self):
        for function in ALL:
            rest = self.fitting(function)[2:]
            for wrong in own.NO_MANY:
                self.refused(BadMany, function, 2, wrong, *rest)
                self.refused(BadMany, function, 997, wrong, *rest)

    def test_no_some(self):
        for function in OF_PICKS:
            for wrong in own.WRONG + own.BELOW_NOUGHT + [6, 7, 8, 10 ** 40, 10 ** 5000]:
                self.refused(BadSome, function, 2, 5, wrong)
            for many in (0, 1, 2, 997, *own.GREAT):
                self.refused(BadSome, function, 3, many, many + 1)
                self.refused(BadSome, function, 3, many, -1)

    def test_some_just_within(self):
        for prime in own.FEW_PRIMES:
            for many in (0, 1, 2, 996, 997, 998, *own.GREAT):
                for function in OF_PICKS:
                    function(prime, many, 0)
                    function(prime, many, many)

    def test_no_number(self):
        for wrong in own.WRONG + own.BELOW_NOUGHT + [4, 5, 6, 10 ** 40, 10 ** 5000]:
            self.refused(BadNumber, place_by, 2, 5, wrong)
        self.assertEqual([place_by(2, 5, number) for number in range(4)], [0, 1, 4, 5])

    def test_the_number_just_beyond_the_last(self):
        for prime in own.FEW_PRIMES:
            for many in (*range(30), *own.GREAT):
                count = free(prime, many)
                self.refused(BadNumber, place_by, prime, many, count)
                self.refused(BadNumber, place_by, prime, many, -1)
                self.assertEqual(place_by(prime, many, count - 1), many)

    def test_not_free(self):
        self.refused(NotFree, number_of, 2, 5, 2)
        self.refused(NotFree, number_of, 2, 5, 3)
        self.refused(NotFree, number_of, 997, 997, 1)
        self.refused(NotFree, number_of, 997, 997, 996)
        self.refused(NotFree, number_of, 3, 3 ** 700, 3 ** 699)

    def test_the_first_refusal(self):
        # Of each thing one that is let by beside wrong ones of other kinds.
        primes = [(2, False), (4, True), (None, True), (True, True), ("2", True)]
        manies = [(5, False), (-1, True), (None, True), (True, True), (5.0, True)]
        thirds = [(1, False), (-1, True), (6, True), (None, True), (True, True), ([], True)]
        for function in ALL:
            kinds = [BadPrime, BadMany, BadNumber if function is place_by else BadSome]
            things = [primes, manies] if function in OF_ROWS else [primes, manies, thirds]
            for choice in itertools.product(*things):
                values = [value for value, _ in choice]
                wrongs = [kind for (_, wrong), kind in zip(choice, kinds) if wrong]
                if wrongs:
                    self.refused(wrongs[0], function, *values)
                else:
                    function(*values)

    def test_some_beyond_many_before_not_free(self):
        # A some whose figures are greater than the many's is still no some first.
        for some in (6, 7, 8):
            self.refused(BadSome, number_of, 2, 5, some)

    def test_all_refusals_are_of_one_class(self):
        for function in ALL:
            with self.assertRaises(errors.ChooseError):
                function(None, *self.fitting(function)[1:])
            with self.assertRaises(ValueError):
                function(None, *self.fitting(function)[1:])


class Nothing(own.QuickTest):
    """Nothing that was handed in or told has a hold on later answers."""

    def test_wrong_values_stay_as_they_were(self):
        wrong_list, wrong_dict = [2, 3], {2: 3}
        for function in ALL:
            for at in range(2 if function in OF_ROWS else 3):
                for wrong in (wrong_list, wrong_dict):
                    values = [2, 5] if function in OF_ROWS else [2, 5, 0]
                    values[at] = wrong
                    with self.assertRaises(errors.ChooseError):
                        function(*values)
        self.assertEqual((wrong_list, wrong_dict), ([2, 3], {2: 3}))

    def test_told_lists_are_new(self):
        for prime in (2, 3, 997):
            for many in (0, 1, 10, 1000, own.FORTY):
                first = figures(prime, many)
                due = list(first)
                first.append(5)
                first[0] = 77
                second = figures(prime, many)
                self.assertEqual(second, due)
                self.assertIsNot(first, second)
                second.clear()
                self.assertEqual(figures(prime, many), due)
                self.assertEqual(free(prime, many), free(prime, many))

    def test_told_answers_are_new(self):
        for values in ((3, 10, 9), (3, 10, 3)):
            first = told(*values)
            due = vars(first).copy()
            for name in due:
                setattr(first, name, 123)
            second = told(*values)
            self.assertIsNot(first, second)
            self.assertEqual(vars(second), due)


if __name__ == "__main__":
    unittest.main()
