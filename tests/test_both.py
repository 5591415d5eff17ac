"""both: in how many rows x is ahead of y and of z; then of y, of z, and how many rows there are."""

import unittest
from fractions import Fraction
from itertools import permutations, product

from likelyorders.chances import both, likely, rows
from tests.trial import (
    IN_ONE_ROW,
    MOST,
    ONE_ROW,
    REFUSED,
    THING_REFUSED,
    has_ring,
    must_be_ahead,
    ordinary_orders,
    rows_by_trial,
    small_orders,
    told,
)


def all_threes(n):
    return list(permutations(range(n), 3))


def counts_by_trial(found, x, y, z):
    """The four numbers, by the things that come behind x in each row."""
    behind = [row[row.index(x) + 1 :] for row in found]
    ahead_of_y = [y in things for things in behind]
    ahead_of_z = [z in things for things in behind]
    ahead_of_both = [{y, z} <= set(things) for things in behind]
    return [sum(ahead_of_both), sum(ahead_of_y), sum(ahead_of_z), len(found)]


def rows_left(n, o):
    """How many rows there are, none where there's a ring."""
    answer = rows(n, o)
    return 0 if answer == REFUSED else answer[0]


class OrdinaryOrders(unittest.TestCase):
    def test_counts_known_by_hand(self):
        self.assertEqual(both(3, 0, 1, 2, []), [2, 3, 3, 6])
        self.assertEqual(both(3, 0, 1, 2, [0, 1]), [2, 3, 2, 3])
        self.assertEqual(both(3, 0, 2, 1, [0, 1]), [2, 2, 3, 3])
        self.assertEqual(both(3, 1, 0, 2, [0, 1]), [0, 0, 1, 3])
        self.assertEqual(both(4, 0, 2, 3, [0, 1, 2, 3]), [3, 3, 5, 6])
        self.assertEqual(both(4, 3, 0, 1, [0, 1, 2, 3]), [1, 1, 3, 6])
        self.assertEqual(both(4, 3, 0, 2, [0, 1, 1, 2]), [1, 1, 3, 4])

    def test_counts_found_by_trial(self):
        for n, o in ordinary_orders():
            found = rows_by_trial(n, o)
            for x, y, z in all_threes(n):
                self.assertEqual(both(n, x, y, z, o), counts_by_trial(found, x, y, z), (n, x, y, z, o))

    def test_rows_that_are_left_by_the_pairs_more(self):
        for n, o in ordinary_orders():
            if n < 6:
                for x, y, z in all_threes(n):
                    left = [rows_left(n, o + more) for more in ([x, y, x, z], [x, y], [x, z], [])]
                    self.assertEqual(both(n, x, y, z, o), left, (n, x, y, z, o))

    def test_last_number_is_what_rows_answers(self):
        for n, o in ordinary_orders():
            for x, y, z in all_threes(n)[:3]:
                self.assertEqual(both(n, x, y, z, o)[3:], rows(n, o), (n, x, y, z, o))

    def test_middle_numbers_make_what_likely_answers(self):
        for n, o in ordinary_orders():
            for x, y, z in all_threes(n)[::5]:
                ahead_of_both, ahead_of_y, ahead_of_z, number = both(n, x, y, z, o)
                self.assertEqual(Fraction(ahead_of_y, number), Fraction(*likely(n, x, y, o)[1:]))
                self.assertEqual(Fraction(ahead_of_z, number), Fraction(*likely(n, x, z, o)[1:]))

    def test_answer_is_a_list_of_whole_numbers(self):
        cases = ((3, 0, 1, 2, []), (6, 5, 0, 1, [0, 5]), (0, 0, 1, 2, []), (3, 0, 1, 2, [0, 1, 1, 0]))
        for n, x, y, z, o in cases + ((3, 0, 0, 1, []),):
            answer = both(n, x, y, z, o)
            self.assertIs(type(answer), list)
            self.assertEqual({type(number) for number in answer}, {int})


class Corners(unittest.TestCase):
    def test_one_thing_and_two_things_have_no_three(self):
        for n in (1, 2):
            for x, y, z in product((0, 1, 2, MOST), repeat=3):
                self.assertEqual(both(n, x, y, z, []), THING_REFUSED, (n, x, y, z))
        for x, y, z in product((0, 1, 2, MOST), repeat=3):
            self.assertEqual(both(2, x, y, z, [1, 0]), THING_REFUSED, (x, y, z))

    def test_no_pairs(self):
        for n, number in ((3, 6), (4, 24), (5, 120)):
            for x, y, z in all_threes(n):
                self.assertEqual(both(n, x, y, z, []), [number // 3, number // 2, number // 2, number])

    def test_six_things_with_no_pairs(self):
        for x, y, z in all_threes(6):
            self.assertEqual(both(6, x, y, z, []), [240, 360, 360, 720], (x, y, z))

    def test_all_in_one_row(self):
        for x, y, z in all_threes(6):
            of_y = int(ONE_ROW.index(x) < ONE_ROW.index(y))
            of_z = int(ONE_ROW.index(x) < ONE_ROW.index(z))
            self.assertEqual(both(6, x, y, z, IN_ONE_ROW), [of_y * of_z, of_y, of_z, 1], (x, y, z))

    def test_pair_told_twice(self):
        for x, y, z in all_threes(4):
            self.assertEqual(both(4, x, y, z, [2, 1, 2, 1]), both(4, x, y, z, [2, 1]), (x, y, z))
        self.assertEqual(both(4, 2, 0, 3, [2, 1, 2, 1]), [6, 8, 8, 12])

    def test_pair_that_follows(self):
        self.assertEqual(both(4, 3, 1, 0, [2, 1, 1, 0]), [2, 2, 3, 4])
        self.assertEqual(both(4, 3, 1, 0, [2, 1, 1, 0, 2, 0]), [2, 2, 3, 4])
        self.assertEqual(both(4, 2, 0, 3, [2, 1, 1, 0, 2, 0]), [3, 4, 3, 4])

    def test_pair_that_is_sure_changes_nothing(self):
        for n in (3, 4):
            for o in small_orders(n, 2):
                if not has_ring(n, o):
                    for pair in must_be_ahead(n, o):
                        for x, y, z in all_threes(n):
                            more = o + told([pair])
                            self.assertEqual(both(n, x, y, z, more), both(n, x, y, z, o), (n, x, y, z, o, pair))


class WhatHolds(unittest.TestCase):
    def test_ahead_of_one_is_likelier_ahead_of_another(self):
        for n, o in ordinary_orders():
            for x, y, z in all_threes(n):
                ahead_of_both, ahead_of_y, ahead_of_z, number = both(n, x, y, z, o)
                self.assertLessEqual(ahead_of_y * ahead_of_z, number * ahead_of_both, (n, x, y, z, o))

    def test_turning_y_and_z_turns_the_two_numbers(self):
        for n, o in ordinary_orders():
            for x, y, z in all_threes(n)[::4]:
                ahead_of_both, ahead_of_y, ahead_of_z, number = both(n, x, y, z, o)
                self.assertEqual(both(n, x, z, y, o), [ahead_of_both, ahead_of_z, ahead_of_y, number])


class ThingsRefused(unittest.TestCase):
    def assert_refused(self, n, x, y, z, o):
        answer = both(n, x, y, z, o)
        self.assertEqual(answer, THING_REFUSED, (n, x, y, z, o))
        self.assertIs(type(answer), list)

    def test_no_such_thing(self):
        for n in range(3, 7):
            for missing in (n, n + 1, MOST):
                for one, other in permutations(range(3), 2):
                    for o in ([], [0, 1], [2, 1, 1, 0]):
                        self.assert_refused(n, missing, one, other, o)
                        self.assert_refused(n, one, missing, other, o)
                        self.assert_refused(n, one, other, missing, o)
        self.assert_refused(6, 6, 7, MOST, [5, 0])

    def test_two_are_one(self):
        for n in range(3, 7):
            for one, other in permutations(range(n), 2):
                for o in ([], [0, 1], [2, 1, 1, 0]):
                    self.assert_refused(n, one, one, other, o)
                    self.assert_refused(n, one, other, one, o)
                    self.assert_refused(n, other, one, one, o)

    def test_all_three_are_one(self):
        for n in range(1, 7):
            for thing in list(range(n)) + [n, MOST]:
                self.assert_refused(n, thing, thing, thing, [])

    def test_nothing_else(self):
        for n, o in ordinary_orders():
            if n < 5:
                for x, y, z in product(range(n + 1), repeat=3):
                    well = max(x, y, z) < n and len({x, y, z}) == 3
                    self.assertEqual(both(n, x, y, z, o) == THING_REFUSED, not well, (n, x, y, z, o))


if __name__ == "__main__":
    unittest.main()
