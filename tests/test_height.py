"""height: 0, then at which place, counted from 1, x is in the mean, a fraction."""

import math
import unittest
from fractions import Fraction

from likelyorders.chances import height, likely, places
from tests.trial import (
    IN_ONE_ROW,
    MOST,
    ONE_ROW,
    THING_REFUSED,
    has_ring,
    must_be_ahead,
    ordinary_orders,
    rows_by_trial,
    small_orders,
    told,
)


def mean_by_trial(found, x):
    """The mean place, by how many things stand in each row up to x and with it."""
    return Fraction(sum(len(row[: row.index(x) + 1]) for row in found), len(found))


def as_told(mean):
    return [0, mean.numerator, mean.denominator]


class OrdinaryOrders(unittest.TestCase):
    def test_means_that_are_whole(self):
        self.assertEqual(height(3, 2, [0, 1]), [0, 2, 1])
        self.assertEqual(height(3, 0, []), [0, 2, 1])
        self.assertEqual(height(5, 2, [0, 2, 2, 4]), [0, 3, 1])
        self.assertEqual(height(2, 0, [1, 0]), [0, 2, 1])
        self.assertEqual(height(5, 1, [4, 1]), [0, 4, 1])

    def test_means_that_are_not_whole(self):
        self.assertEqual(height(3, 0, [0, 1]), [0, 4, 3])
        self.assertEqual(height(3, 1, [0, 1]), [0, 8, 3])
        self.assertEqual(height(4, 0, [0, 1, 1, 2]), [0, 5, 4])
        self.assertEqual(height(4, 2, [0, 1, 1, 2]), [0, 15, 4])

    def test_means_that_are_brought_to_lowest_terms(self):
        self.assertEqual(height(4, 0, [0, 1, 2, 3]), [0, 5, 3])
        self.assertEqual(height(4, 3, [0, 1, 2, 3]), [0, 10, 3])
        self.assertEqual(height(4, 3, [0, 1, 1, 2]), [0, 5, 2])
        self.assertEqual(height(6, 0, [0, 1]), [0, 7, 3])

    def test_means_found_by_trial(self):
        for n, o in ordinary_orders():
            found = rows_by_trial(n, o)
            for x in range(n):
                self.assertEqual(height(n, x, o), as_told(mean_by_trial(found, x)), (n, x, o))

    def test_means_of_what_places_answers(self):
        for n, o in ordinary_orders():
            for x in range(n):
                at_each = places(n, x, o)[1:]
                together = sum(place * number for place, number in enumerate(at_each, start=1))
                self.assertEqual(height(n, x, o), as_told(Fraction(together, sum(at_each))), (n, x, o))

    def test_one_more_than_how_many_are_likely_ahead(self):
        for n, o in ordinary_orders():
            for x in range(n):
                shares = [Fraction(*likely(n, y, x, o)[1:]) for y in range(n) if y != x]
                self.assertEqual(height(n, x, o), as_told(1 + sum(shares, start=Fraction(0))), (n, x, o))

    def test_fractions_are_in_lowest_terms(self):
        for n, o in ordinary_orders():
            for x in range(n):
                zero, above, below = height(n, x, o)
                self.assertEqual(zero, 0)
                self.assertGreater(below, 0)
                self.assertEqual(math.gcd(above, below), 1, (n, x, o))

    def test_all_heights_together(self):
        for n, o in ordinary_orders():
            heights = [Fraction(*height(n, x, o)[1:]) for x in range(n)]
            self.assertEqual(sum(heights), n * (n + 1) // 2, (n, o))

    def test_who_must_come_ahead_is_higher_up(self):
        for n, o in ordinary_orders():
            heights = [Fraction(*height(n, x, o)[1:]) for x in range(n)]
            for one, other in must_be_ahead(n, o):
                self.assertLessEqual(heights[one] + 1, heights[other], (n, o, one, other))

    def test_answer_is_a_list_of_whole_numbers(self):
        for n, x, o in ((1, 0, []), (6, 5, [0, 5]), (0, 0, []), (2, 0, [0, 1, 1, 0]), (2, 2, [])):
            answer = height(n, x, o)
            self.assertIs(type(answer), list)
            self.assertEqual({type(number) for number in answer}, {int})


class Corners(unittest.TestCase):
    def test_one_thing(self):
        self.assertEqual(height(1, 0, []), [0, 1, 1])

    def test_no_pairs(self):
        for n, mean in ((2, [0, 3, 2]), (3, [0, 2, 1]), (4, [0, 5, 2]), (5, [0, 3, 1])):
            for x in range(n):
                self.assertEqual(height(n, x, []), mean, (n, x))

    def test_six_things_with_no_pairs(self):
        for x in range(6):
            self.assertEqual(height(6, x, []), [0, 7, 2])

    def test_all_in_one_row(self):
        for place, x in enumerate(ONE_ROW, start=1):
            self.assertEqual(height(6, x, IN_ONE_ROW), [0, place, 1])

    def test_pair_told_twice(self):
        for x, mean in ((0, [0, 5, 2]), (1, [0, 10, 3]), (2, [0, 5, 3]), (3, [0, 5, 2])):
            self.assertEqual(height(4, x, [2, 1]), mean)
            self.assertEqual(height(4, x, [2, 1, 2, 1]), mean)

    def test_pair_that_follows(self):
        for x, mean in ((0, [0, 15, 4]), (1, [0, 5, 2]), (2, [0, 5, 4]), (3, [0, 5, 2])):
            self.assertEqual(height(4, x, [2, 1, 1, 0]), mean)
            self.assertEqual(height(4, x, [2, 1, 1, 0, 2, 0]), mean)

    def test_pair_that_is_sure_changes_nothing(self):
        for n in range(2, 5):
            for o in small_orders(n, 2):
                if not has_ring(n, o):
                    for pair in must_be_ahead(n, o):
                        for x in range(n):
                            self.assertEqual(height(n, x, o + told([pair])), height(n, x, o), (n, x, o, pair))


class ThingsRefused(unittest.TestCase):
    def assert_refused(self, n, x, o):
        answer = height(n, x, o)
        self.assertEqual(answer, THING_REFUSED, (n, x, o))
        self.assertIs(type(answer), list)

    def test_no_such_thing(self):
        for n in range(1, 7):
            for missing in (n, n + 1, MOST - 1, MOST):
                self.assert_refused(n, missing, [])
        for missing in (4, 5, 6, MOST):
            self.assert_refused(4, missing, [0, 1, 1, 2])

    def test_nothing_else(self):
        for n, o in ordinary_orders():
            for x in range(n + 2):
                self.assertEqual(height(n, x, o) == THING_REFUSED, x >= n, (n, x, o))


if __name__ == "__main__":
    unittest.main()
