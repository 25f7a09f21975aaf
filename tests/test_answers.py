"""Promise 3: what answers show, made by hand too."""

import unittest

import own
from choosecarry.answers import Answer, Bound, Free
from choosecarry.ways import told

FAR = [10 ** 40, -10 ** 40, 10 ** 600, -10 ** 600]


class MadeByHand(own.QuickTest):
    def test_the_classes(self):
        for kind in (Free, Bound):
            self.assertEqual(kind.__bases__, (Answer,))
            self.assertIn("shows", vars(kind))
        self.assertEqual(vars(Free(5)), {"rest": 5})
        self.assertEqual(vars(Bound(5)), {"place": 5})

    def shown(self, kind, tried, values):
        """Which of the tried fields an answer shows with."""
        found = []
        for field in tried:
            shows = kind(field).shows(*values)
            self.assertIs(type(shows), bool)
            if shows:
                found.append(field)
        return found

    def test_all_fields_in_small_rows(self):
        for prime in (2, 3, 5, 7):
            rests = [*range(-prime - 1, 2 * prime + 2), *FAR]
            places = [*range(-6, 12), *FAR]
            for many in range(0, 40):
                of_many = own.plain_figures(prime, many) + [0] * 12
                for some, count in enumerate(own.pascal(many)):
                    values = (prime, many, some)
                    left = count % prime
                    due = [left] if left else []
                    self.assertEqual(self.shown(Free, rests, values), due)
                    of_some = own.plain_figures(prime, some) + [0] * 12
                    due = [at for at in range(12) if of_some[at] > of_many[at]]
                    self.assertEqual(self.shown(Bound, places, values), due)
                    self.assertEqual(bool(due), left == 0)

    def test_what_is_due_and_beside_it(self):
        # By 997 the figures are 3 2 and 2 1: 3 ways at the first place, 2 at the other.
        prime, many, some = 997, 2 * 997 + 3, 997 + 2
        due = 3 * 2
        self.assertEqual(told(prime, many, some).rest, due)
        tried = [due, due + 1, due - 1, 0, due + prime, due - prime, -due, *FAR]
        self.assertEqual(self.shown(Free, tried, (prime, many, some)), [due])
        tried = [0, 1, 2, 3, -1, -2, -3, *FAR]
        self.assertEqual(self.shown(Bound, tried, (prime, many, some)), [])

    def test_a_bound_one(self):
        # By 3 the figures of 10 are 1 0 1, those of 5 are 2 1.
        tried = [0, 1, 2, 3, 4, -1, -2, -3, *FAR]
        self.assertEqual(self.shown(Bound, tried, (3, 10, 5)), [0, 1])
        self.assertEqual(self.shown(Free, tried, (3, 10, 5)), [])

    def test_a_carry_alone_is_no_greater_figure(self):
        # By 2, in 1 + 7 a carry comes at three places, but the figure of 1 is greater at one.
        self.assertEqual(self.shown(Bound, [0, 1, 2, 3], (2, 8, 1)), [0])

    def test_great_rows(self):
        for prime in (2, 3, 997):
            for many in own.GREAT:
                for some in (0, many, many // 2, many // 3):
                    of_many = own.plain_figures(prime, many)
                    of_some = own.plain_figures(prime, some) + [0] * len(of_many)
                    last = len(of_many) - 1
                    tried = [*range(40), last // 2, last - 1, last]
                    wanted = [at for at in tried if at <= last and of_some[at] > of_many[at]]
                    tried += [last + 1, last + 2, -1, -2, -last - 1, *FAR]
                    self.assertEqual(self.shown(Bound, tried, (prime, many, some)), wanted)

    def test_free_in_great_rows(self):
        for prime in (2, 3, 997):
            for many in own.GREAT:
                for some in (0, many):
                    tried = [1, 0, 2, -1, 1 + prime, 1 - prime, *FAR]
                    self.assertEqual(self.shown(Free, tried, (prime, many, some)), [1])

    def test_true_and_false_are_no_numbers(self):
        self.assertIs(Free(1).shows(2, 5, 1), True)
        self.assertIs(Free(True).shows(2, 5, 1), False)
        self.assertIs(Bound(1).shows(2, 5, 2), True)
        self.assertIs(Bound(True).shows(2, 5, 2), False)
        self.assertIs(Bound(0).shows(2, 2, 1), True)
        self.assertIs(Bound(False).shows(2, 2, 1), False)


class AskedAgain(own.QuickTest):
    def test_of_another_pick(self):
        free = told(7, 10, 3)
        self.assertEqual(free.rest, 1)
        self.assertIs(free.shows(7, 10, 3), True)
        self.assertIs(free.shows(7, 9, 3), False)
        self.assertIs(free.shows(7, 10, 2), False)
        self.assertIs(free.shows(11, 10, 3), False)
        self.assertIs(free.shows(7, 10, 10), True)
        self.assertIs(free.shows(2, 5, 1), True)
        bound = told(3, 10, 3)
        self.assertEqual(bound.place, 1)
        self.assertIs(bound.shows(3, 10, 3), True)
        self.assertIs(bound.shows(3, 11, 2), False)
        self.assertIs(bound.shows(3, 10, 9), False)
        self.assertIs(bound.shows(2, 10, 3), False)
        self.assertIs(bound.shows(2, 5, 2), True)

    def test_a_changed_field(self):
        free = told(7, 10, 3)
        free.rest = 2
        self.assertIs(free.shows(7, 10, 3), False)
        free.rest = 1
        self.assertIs(free.shows(7, 10, 3), True)
        free.rest = 8
        self.assertIs(free.shows(7, 10, 3), False)
        bound = told(3, 10, 5)
        bound.place = 2
        self.assertIs(bound.shows(3, 10, 5), False)
        for place in (0, 1):
            bound.place = place
            self.assertIs(bound.shows(3, 10, 5), True)
        bound.place = 10 ** 40
        self.assertIs(bound.shows(3, 10, 5), False)

    def test_shows_changes_nothing(self):
        free, bound = Free(4), Bound(4)
        free.shows(7, 10, 3)
        bound.shows(7, 10, 3)
        self.assertEqual((vars(free), vars(bound)), ({"rest": 4}, {"place": 4}))

    def test_what_is_no_pick_is_not_refused(self):
        tried = [(4, 10, 3), (1, 10, 3), (998, 10, 3), (2, -1, 0), (2, 5, 6), (2, 5, -1), (2, 0, -1)]
        for wrong in own.WRONG:
            tried += [(wrong, 10, 3), (3, wrong, 0), (3, 10, wrong)]
        for values in tried:
            for field in (-1, 0, 1, 2):
                self.assertIs(Free(field).shows(*values), False)
                self.assertIs(Bound(field).shows(*values), False)

    def test_a_field_that_is_no_number(self):
        for wrong in own.WRONG:
            self.assertIs(Free(wrong).shows(2, 5, 1), False)
            self.assertIs(Bound(wrong).shows(2, 5, 2), False)


if __name__ == "__main__":
    unittest.main()
