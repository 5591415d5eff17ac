"""likely: 0, then in how many of all rows x is ahead of y, by how many there are, a fraction."""

import math
import unittest
from fractions import Fraction

from likelyorders.chances import likely, rows
from tests.trial import (
    IN_ONE_ROW,
    MOST,
    ONE_ROW,
    REFUSED,
    THING_REFUSED,
    all_pairs,
    has_ring,
    must_be_ahead,
    ordinary_orders,
    rows_by_trial,
    small_orders,
    told,
)


def share_by_trial(found, x, y):
    """How likely x is ahead of y, by the things that come behind x in each row."""
    return Fraction(sum(y in row[row.index(x) + 1 :] for row in found), len(found))


class OrdinaryOrders(unittest.TestCase):
    def test_fractions_known_by_hand(self):
        self.assertEqual(likely(3, 0, 1, [0, 2]), [0, 2, 3])
        self.assertEqual(likely(3, 1, 0, [0, 2]), [0, 1, 3])
        self.assertEqual(likely(3, 1, 2, [0, 2]), [0, 2, 3])
        self.assertEqual(likely(4, 0, 2, [0, 1, 2, 3]), [0, 1, 2])
        self.assertEqual(likely(4, 0, 3, [0, 1, 2, 3]), [0, 5, 6])
        self.assertEqual(likely(4, 3, 0, [0, 1, 2, 3]), [0, 1, 6])
        self.assertEqual(likely(4, 3, 0, [0, 1, 1, 2]), [0, 1, 4])
        self.assertEqual(likely(6, 2, 3, [0, 1, 1, 2, 3, 4, 4, 5]), [0, 1, 20])

    def test_fractions_found_by_trial(self):
        for n, o in ordinary_orders():
            found = rows_by_trial(n, o)
            for x, y in all_pairs(n):
                share = share_by_trial(found, x, y)
                self.assertEqual(likely(n, x, y, o), [0, share.numerator, share.denominator], (n, x, y, o))

    def test_rows_that_are_left_by_the_pair_more(self):
        for n, o in ordinary_orders():
            (number,) = rows(n, o)
            for x, y in all_pairs(n):
                answer = rows(n, o + [x, y])
                left = 0 if answer == REFUSED else answer[0]
                zero, above, below = likely(n, x, y, o)
                self.assertEqual((zero, above * number), (0, left * below), (n, x, y, o))

    def test_fractions_are_in_lowest_terms(self):
        for n, o in ordinary_orders():
            for x, y in all_pairs(n):
                zero, above, below = likely(n, x, y, o)
                self.assertGreater(below, 0)
                self.assertEqual(math.gcd(above, below), 1, (n, x, y, o))

    def test_both_ways_together_make_1(self):
        for n, o in ordinary_orders():
            for x, y in all_pairs(n):
                one = likely(n, x, y, o)
                other = likely(n, y, x, o)
                self.assertEqual(Fraction(one[1], one[2]) + Fraction(other[1], other[2]), 1, (n, x, y, o))

    def test_answer_is_a_list_of_whole_numbers(self):
        cases = ((2, 0, 1, []), (4, 3, 1, [3, 1]), (6, 5, 0, [0, 5]), (0, 0, 1, []), (2, 0, 1, [0, 1, 1, 0]))
        for n, x, y, o in cases + ((2, 0, 0, []),):
            answer = likely(n, x, y, o)
            self.assertIs(type(answer), list)
            self.assertEqual({type(number) for number in answer}, {int})


class Corners(unittest.TestCase):
    def test_one_thing_has_no_other(self):
        for x, y in ((0, 0), (0, 1), (1, 0), (MOST, 0)):
            self.assertEqual(likely(1, x, y, []), THING_REFUSED)

    def test_no_pairs(self):
        for n in range(2, 7):
            for x, y in all_pairs(n):
                self.assertEqual(likely(n, x, y, []), [0, 1, 2], (n, x, y))

    def test_all_in_one_row(self):
        for x, y in all_pairs(6):
            share = [0, 1, 1] if ONE_ROW.index(x) < ONE_ROW.index(y) else [0, 0, 1]
            self.assertEqual(likely(6, x, y, IN_ONE_ROW), share, (x, y))

    def test_x_ahead_of_y_for_sure_by_a_pair(self):
        self.assertEqual(likely(2, 0, 1, [0, 1]), [0, 1, 1])
        self.assertEqual(likely(2, 1, 0, [0, 1]), [0, 0, 1])
        self.assertEqual(likely(6, 4, 1, [4, 1]), [0, 1, 1])
        self.assertEqual(likely(6, 1, 4, [4, 1]), [0, 0, 1])

    def test_x_ahead_of_y_for_sure_by_several(self):
        self.assertEqual(likely(6, 4, 0, [2, 0, 4, 1, 1, 2]), [0, 1, 1])
        self.assertEqual(likely(6, 0, 4, [2, 0, 4, 1, 1, 2]), [0, 0, 1])

    def test_sure_where_it_must_be_and_only_there(self):
        for n, o in ordinary_orders():
            sure = must_be_ahead(n, o)
            for x, y in all_pairs(n):
                answer = likely(n, x, y, o)
                self.assertEqual(answer == [0, 1, 1], (x, y) in sure, (n, x, y, o))
                self.assertEqual(answer == [0, 0, 1], (y, x) in sure, (n, x, y, o))

    def test_pair_told_twice(self):
        self.assertEqual(likely(4, 2, 0, [2, 1, 2, 1]), [0, 2, 3])
        self.assertEqual(likely(4, 0, 3, [2, 1, 0, 3, 2, 1]), [0, 1, 1])

    def test_pair_that_is_sure_changes_nothing(self):
        for n in range(2, 5):
            for o in small_orders(n, 2):
                if not has_ring(n, o):
                    for pair in must_be_ahead(n, o):
                        for x, y in all_pairs(n):
                            more = o + told([pair])
                            self.assertEqual(likely(n, x, y, more), likely(n, x, y, o), (n, x, y, o, pair))


class ThingsRefused(unittest.TestCase):
    def assert_refused(self, n, x, y, o):
        answer = likely(n, x, y, o)
        self.assertEqual(answer, THING_REFUSED, (n, x, y, o))
        self.assertIs(type(answer), list)

    def test_no_such_thing(self):
        for n in range(1, 7):
            for missing in (n, n + 1, MOST):
                for thing in range(n):
                    self.assert_refused(n, missing, thing, [])
                    self.assert_refused(n, thing, missing, [])
        self.assert_refused(4, 4, 0, [0, 1, 1, 2])
        self.assert_refused(4, 0, 4, [0, 1, 1, 2])
        self.assert_refused(6, 6, MOST, [5, 0])

    def test_x_and_y_are_one(self):
        for n in range(1, 7):
            for thing in list(range(n)) + [n, MOST]:
                self.assert_refused(n, thing, thing, [])
        for thing in range(4):
            self.assert_refused(4, thing, thing, [0, 1, 3, 2])

    def test_nothing_else(self):
        for n, o in ordinary_orders():
            for x in range(n + 2):
                for y in range(n + 2):
                    well = x < n and y < n and x != y
                    self.assertEqual(likely(n, x, y, o) == THING_REFUSED, not well, (n, x, y, o))


if __name__ == "__main__":
    unittest.main()
