"""rows: how many rows there are."""

import unittest

from likelyorders.chances import rows
from tests.trial import all_pairs, has_ring, must_be_ahead, orders_to_try, rows_by_trial, small_orders, told


class OrdinaryOrders(unittest.TestCase):
    def test_counts_known_by_hand(self):
        self.assertEqual(rows(2, [1, 0]), [1])
        self.assertEqual(rows(3, [0, 1]), [3])
        self.assertEqual(rows(3, [0, 1, 0, 2]), [2])
        self.assertEqual(rows(4, [0, 1, 2, 3]), [6])
        self.assertEqual(rows(4, [0, 2, 1, 2, 1, 3]), [5])
        self.assertEqual(rows(5, [4, 0]), [60])
        self.assertEqual(rows(6, [0, 1, 2, 3, 4, 5]), [90])
        self.assertEqual(rows(6, [0, 1, 1, 2, 3, 4, 4, 5]), [20])
        self.assertEqual(rows(6, [0, 1, 1, 2, 3, 4, 4, 5, 0, 3, 1, 4, 2, 5]), [5])

    def test_counts_found_by_trial(self):
        for n, o in orders_to_try():
            if not has_ring(n, o):
                self.assertEqual(rows(n, o), [len(rows_by_trial(n, o))], (n, o))

    def test_answer_is_a_list_of_one_whole_number(self):
        for n, o in ((1, []), (4, [0, 1]), (6, []), (0, []), (2, [0, 1, 1, 0])):
            answer = rows(n, o)
            self.assertIs(type(answer), list)
            self.assertEqual([type(number) for number in answer], [int])


class Corners(unittest.TestCase):
    def test_one_thing(self):
        self.assertEqual(rows(1, []), [1])

    def test_no_pairs(self):
        self.assertEqual([rows(n, []) for n in range(1, 7)], [[1], [2], [6], [24], [120], [720]])

    def test_all_in_one_row(self):
        self.assertEqual(rows(6, [0, 1, 1, 2, 2, 3, 3, 4, 4, 5]), [1])
        self.assertEqual(rows(6, [5, 4, 4, 3, 3, 2, 2, 1, 1, 0]), [1])
        self.assertEqual(rows(4, [1, 2, 3, 0, 2, 3]), [1])

    def test_pair_told_twice(self):
        self.assertEqual(rows(4, [2, 1, 2, 1]), [12])
        self.assertEqual(rows(4, [2, 1, 0, 3, 2, 1]), [6])

    def test_pair_that_follows(self):
        self.assertEqual(rows(4, [2, 1, 1, 0]), [4])
        self.assertEqual(rows(4, [2, 1, 1, 0, 2, 0]), [4])

    def test_turn_of_the_pairs_changes_nothing(self):
        self.assertEqual(rows(5, [0, 1, 1, 2, 3, 4]), rows(5, [3, 4, 1, 2, 0, 1]))


class WhatHolds(unittest.TestCase):
    def test_there_is_a_row_where_nothing_is_refused(self):
        for n, o in orders_to_try():
            if not has_ring(n, o):
                self.assertGreaterEqual(rows(n, o)[0], 1, (n, o))

    def held_orders(self):
        for n in range(2, 6):
            for o in small_orders(n, 2):
                if not has_ring(n, o):
                    yield n, o
        for o in ([], [3, 1], [5, 4, 4, 0], [0, 1, 2, 3, 4, 5], [1, 3, 3, 5, 1, 0, 0, 2]):
            yield 6, o

    def test_a_pair_more_lets_no_more_rows_be(self):
        for n, o in self.held_orders():
            before = rows(n, o)[0]
            sure = must_be_ahead(n, o)
            for one, other in all_pairs(n):
                if (other, one) not in sure:
                    for more in (o + [one, other], [one, other] + o):
                        after = rows(n, more)[0]
                        self.assertGreaterEqual(after, 1, (n, more))
                        self.assertLessEqual(after, before, (n, more))

    def test_a_pair_that_is_sure_changes_nothing(self):
        for n, o in self.held_orders():
            for pair in must_be_ahead(n, o):
                self.assertEqual(rows(n, o + told([pair])), rows(n, o), (n, o, pair))
                self.assertEqual(rows(n, told([pair]) + o), rows(n, o), (n, o, pair))

    def test_a_pair_that_is_not_sure_takes_rows_away(self):
        for n, o in self.held_orders():
            sure = must_be_ahead(n, o)
            for one, other in all_pairs(n):
                if (one, other) not in sure and (other, one) not in sure:
                    self.assertLess(rows(n, o + [one, other])[0], rows(n, o)[0], (n, o, one, other))


if __name__ == "__main__":
    unittest.main()
