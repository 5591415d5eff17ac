"""first: n, then the first row."""

import unittest

from likelyorders.chances import first
from tests.trial import has_ring, must_be_ahead, orders_to_try, rows_by_trial, small_orders, told


class OrdinaryOrders(unittest.TestCase):
    def test_rows_known_by_hand(self):
        self.assertEqual(first(2, [1, 0]), [2, 1, 0])
        self.assertEqual(first(3, [2, 0]), [3, 1, 2, 0])
        self.assertEqual(first(3, [2, 1]), [3, 0, 2, 1])
        self.assertEqual(first(4, [3, 0, 2, 1]), [4, 2, 1, 3, 0])
        self.assertEqual(first(5, [4, 1, 3, 0]), [5, 2, 3, 0, 4, 1])
        self.assertEqual(first(6, [5, 0]), [6, 1, 2, 3, 4, 5, 0])
        self.assertEqual(first(6, [5, 1, 1, 0, 4, 5]), [6, 2, 3, 4, 5, 1, 0])

    def test_rows_found_by_trial(self):
        for n, o in orders_to_try():
            if not has_ring(n, o):
                self.assertEqual(first(n, o), [n] + list(rows_by_trial(n, o)[0]), (n, o))

    def test_answer_is_a_list_of_whole_numbers(self):
        for n, o in ((1, []), (4, [3, 1]), (6, []), (0, []), (2, [0, 1, 1, 0])):
            answer = first(n, o)
            self.assertIs(type(answer), list)
            self.assertEqual({type(number) for number in answer}, {int})


class Corners(unittest.TestCase):
    def test_one_thing(self):
        self.assertEqual(first(1, []), [1, 0])

    def test_no_pairs(self):
        for n in range(1, 7):
            self.assertEqual(first(n, []), [n] + list(range(n)))

    def test_all_in_one_row(self):
        self.assertEqual(first(6, [0, 1, 1, 2, 2, 3, 3, 4, 4, 5]), [6, 0, 1, 2, 3, 4, 5])
        self.assertEqual(first(6, [5, 4, 4, 3, 3, 2, 2, 1, 1, 0]), [6, 5, 4, 3, 2, 1, 0])
        self.assertEqual(first(4, [1, 2, 3, 0, 2, 3]), [4, 1, 2, 3, 0])

    def test_pair_told_twice(self):
        self.assertEqual(first(4, [2, 1, 2, 1]), [4, 0, 2, 1, 3])
        self.assertEqual(first(4, [2, 1, 3, 0, 2, 1]), [4, 2, 1, 3, 0])

    def test_pair_that_follows(self):
        self.assertEqual(first(4, [2, 1, 1, 0]), [4, 2, 1, 0, 3])
        self.assertEqual(first(4, [2, 1, 1, 0, 2, 0]), [4, 2, 1, 0, 3])

    def test_a_pair_that_is_sure_changes_nothing(self):
        for n in range(2, 6):
            for o in small_orders(n, 2):
                if not has_ring(n, o):
                    for pair in must_be_ahead(n, o):
                        self.assertEqual(first(n, o + told([pair])), first(n, o), (n, o, pair))


if __name__ == "__main__":
    unittest.main()
