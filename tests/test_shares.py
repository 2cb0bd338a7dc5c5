"""What bridgecrews.shares does: fractions, copies of bridges, and lists that are counted."""

import math
import unittest

from bridgecrews.errors import TooLarge
from bridgecrews.shares import check_shared, counted_lists, fraction_of, with_copies
from bridgecrews.towns import Town
from town_help import full_town


class Fractions(unittest.TestCase):
    def test_a_fraction_is_in_lowest_terms(self):
        for top in range(70):
            for bottom in range(1, 70):
                divisor = math.gcd(top, bottom)
                self.assertEqual(fraction_of(top, bottom), (top // divisor, bottom // divisor))

    def test_nought(self):
        for bottom in (1, 2, 5, 60):
            self.assertEqual(fraction_of(0, bottom), (0, 1))


class Copies(unittest.TestCase):
    def test_each_bridge_stands_so_often_side_by_side(self):
        town = Town(3, [(0, 1), (2, 1)])
        self.assertEqual(with_copies(town, 1).bridges, [(0, 1), (2, 1)])
        copied = with_copies(town, 3)
        self.assertEqual((copied.quarters, copied.bridges), (3, [(0, 1)] * 3 + [(2, 1)] * 3))
        self.assertEqual(town.bridges, [(0, 1), (2, 1)])

    def test_the_largest_town_with_the_most_copies_is_a_town(self):
        self.assertEqual(len(with_copies(full_town(1, 6, 12), 5).bridges), 60)


class CountedLists(unittest.TestCase):
    def test_lists_are_told_once_each_in_rising_order_with_their_counts(self):
        for dealing, copies, counted in (
            ([], 1, []),
            ([[]], 2, [([], 1)]),
            ([[1], [0]], 1, [([0], 1), ([1], 1)]),
            ([[1, 2], [0, 3]], 2, [([0, 1], 2)]),
            ([[0, 3, 7], [2, 5], [1, 4, 8]], 3, [([0, 1], 1), ([0, 1, 2], 2)]),
            ([[5], [1, 4], [0], [2]], 2, [([0], 1), ([0, 2], 1), ([1], 1), ([2], 1)]),
        ):
            with self.subTest(dealing=dealing, copies=copies):
                self.assertEqual(counted_lists(dealing, copies), counted)


class Sizes(unittest.TestCase):
    def test_six_quarters_with_twelve_bridges_pass(self):
        for town in (Town(1, []), Town(6, []), Town(2, [(0, 1)] * 12), full_town(1, 6, 12)):
            self.assertIsNone(check_shared(town))

    def test_more_is_refused(self):
        for town in (Town(7, []), Town(2, [(0, 1)] * 13), full_town(1, 24, 60)):
            with self.assertRaises(TooLarge):
                check_shared(town)


if __name__ == "__main__":
    unittest.main()
