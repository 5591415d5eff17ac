"""places: n, then in how many rows x is at each place."""

import unittest
from fractions import Fraction

from likelyorders.chances import likely, places, rows
from tests.trial import (
    IN_ONE_ROW,
    MOST,
    ONE_ROW,
    THING_REFUSED,
    has_ring,
    must_be_ahead,
    ordinary_orders,
    rows_by_trial,
    small_orders,
    told,
)


def counts_by_trial(n, found, x):
    """In how many rows x is at each place, by going through the rows once."""
    at_each = [0] * n
    for row in found:
        at_each[row.index(x)] += 1
    return at_each


class OrdinaryOrders(unittest.TestCase):
    def test_counts_known_by_hand(self):
        self.assertEqual(places(2, 0, [1, 0]), [2, 0, 1])
        self.assertEqual(places(3, 0, [0, 1]), [3, 2, 1, 0])
        self.assertEqual(places(3, 1, [0, 1]), [3, 0, 1, 2])
        self.assertEqual(places(3, 2, [0, 1]), [3, 1, 1, 1])
        self.assertEqual(places(4, 0, [0, 1, 2, 3]), [4, 3, 2, 1, 0])
        self.assertEqual(places(4, 3, [0, 1, 1, 2]), [4, 1, 1, 1, 1])
        self.assertEqual(places(5, 2, [0, 2, 2, 4]), [5, 0, 6, 8, 6, 0])

    def test_counts_found_by_trial(self):
        for n, o in ordinary_orders():
            found = rows_by_trial(n, o)
            for x in range(n):
                self.assertEqual(places(n, x, o), [n] + counts_by_trial(n, found, x), (n, x, o))

    def test_together_they_are_the_number_of_rows(self):
        for n, o in ordinary_orders():
            for x in range(n):
                answer = places(n, x, o)
                self.assertEqual(len(answer), n + 1)
                self.assertEqual([sum(answer[1:])], rows(n, o), (n, x, o))

    def test_each_place_is_taken_once_in_every_row(self):
        for n, o in ordinary_orders():
            at_each = [places(n, x, o)[1:] for x in range(n)]
            for counts in zip(*at_each):
                self.assertEqual([sum(counts)], rows(n, o), (n, o))

    def test_mean_place_is_how_many_are_likely_ahead(self):
        for n, o in ordinary_orders():
            for x in range(n):
                at_each = places(n, x, o)[1:]
                mean = Fraction(sum(place * number for place, number in enumerate(at_each)), sum(at_each))
                shares = [Fraction(*likely(n, y, x, o)[1:]) for y in range(n) if y != x]
                self.assertEqual(mean, sum(shares), (n, x, o))

    def test_answer_is_a_list_of_whole_numbers(self):
        for n, x, o in ((1, 0, []), (6, 5, [0, 5]), (0, 0, []), (2, 0, [0, 1, 1, 0]), (2, 2, [])):
            answer = places(n, x, o)
            self.assertIs(type(answer), list)
            self.assertEqual({type(number) for number in answer}, {int})


class Corners(unittest.TestCase):
    def test_one_thing(self):
        self.assertEqual(places(1, 0, []), [1, 1])

    def test_two_things(self):
        self.assertEqual(places(2, 0, []), [2, 1, 1])
        self.assertEqual(places(2, 0, [0, 1]), [2, 1, 0])
        self.assertEqual(places(2, 1, [0, 1]), [2, 0, 1])

    def test_no_pairs(self):
        for n, number in ((2, 1), (3, 2), (4, 6), (5, 24)):
            for x in range(n):
                self.assertEqual(places(n, x, []), [n] + [number] * n)

    def test_six_things_with_no_pairs(self):
        for x in range(6):
            self.assertEqual(places(6, x, []), [6, 120, 120, 120, 120, 120, 120])

    def test_all_in_one_row(self):
        for place, x in enumerate(ONE_ROW):
            at_each = [0] * 6
            at_each[place] = 1
            self.assertEqual(places(6, x, IN_ONE_ROW), [6] + at_each)

    def test_pair_told_twice(self):
        self.assertEqual(places(4, 2, [2, 1, 2, 1]), [4, 6, 4, 2, 0])
        self.assertEqual(places(4, 2, [2, 1, 0, 3, 2, 1]), [4, 3, 2, 1, 0])

    def test_pair_that_follows(self):
        self.assertEqual(places(4, 1, [2, 1, 1, 0]), [4, 0, 2, 2, 0])
        self.assertEqual(places(4, 1, [2, 1, 1, 0, 2, 0]), [4, 0, 2, 2, 0])

    def test_pair_that_is_sure_changes_nothing(self):
        for n in range(2, 5):
            for o in small_orders(n, 2):
                if not has_ring(n, o):
                    for pair in must_be_ahead(n, o):
                        for x in range(n):
                            self.assertEqual(places(n, x, o + told([pair])), places(n, x, o), (n, x, o, pair))


class WhatHolds(unittest.TestCase):
    def test_squared_no_less_than_its_neighbours_multiplied(self):
        for n, o in ordinary_orders():
            for x in range(n):
                at_each = places(n, x, o)[1:]
                for before, here, behind in zip(at_each, at_each[1:], at_each[2:]):
                    self.assertGreaterEqual(here * here, before * behind, (n, x, o))


class ThingsRefused(unittest.TestCase):
    def assert_refused(self, n, x, o):
        answer = places(n, x, o)
        self.assertEqual(answer, THING_REFUSED, (n, x, o))
        self.assertIs(type(answer), list)

    def test_no_such_thing(self):
        for n in range(1, 7):
            for missing in (n, n + 1, MOST - 1, MOST):
                self.assert_refused(n, missing, [])
        for missing in (4, 5, 6, MOST):
            self.assert_refused(4, missing, [0, 1, 1, 2])

    def test_nothing_else(self):
        for n, o in ordinary_orders():
            for x in range(n + 2):
                self.assertEqual(places(n, x, o) == THING_REFUSED, x >= n, (n, x, o))


if __name__ == "__main__":
    unittest.main()
