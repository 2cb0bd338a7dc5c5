"""What bridgecrews.asking asks of quarters, of the ends of a bridge, of a town's parts and of lists of numbers."""

import unittest

from bridgecrews.asking import (
    are_amounts, are_groups, check_crews, check_not_above, check_not_alone, check_quarter, check_some,
    check_some_quarters, check_town, check_wages, each_once, is_quarter, joins_two, put_together, rises, rises_below,
)
from bridgecrews.errors import BadCount, BadQuarters, BadSome, BadTown, BadWages, TooLarge, TooSmall


class IsQuarter(unittest.TestCase):
    def test_quarters_are_counted_from_nought(self):
        for quarters in (1, 2, 24):
            told = [number for number in range(-3, quarters + 3) if is_quarter(number, quarters)]
            self.assertEqual(told, list(range(quarters)))

    def test_far_numbers_are_none(self):
        self.assertIs(is_quarter(10 ** 69, 24), False)
        self.assertIs(is_quarter(-10 ** 69, 24), False)


class JoinsTwo(unittest.TestCase):
    def test_two_different_quarters(self):
        told = [(one, other) for one in range(-1, 4) for other in range(-1, 4) if joins_two(one, other, 3)]
        self.assertEqual(told, [(0, 1), (0, 2), (1, 0), (1, 2), (2, 0), (2, 1)])


class CheckTown(unittest.TestCase):
    def test_good_parts_pass_and_nothing_is_told(self):
        self.assertIsNone(check_town(1, []))
        self.assertIsNone(check_town(24, [(0, 23)] * 60))

    def test_bad_parts_are_refused(self):
        for quarters, bridges in ((0, []), (25, []), (2, [(0, 1)] * 61), (2, [(0, 2)]), (2, [(1, 1)])):
            with self.subTest(quarters=quarters, bridges=bridges):
                with self.assertRaises(BadTown):
                    check_town(quarters, bridges)


class Lists(unittest.TestCase):
    def test_a_list_rises_where_each_number_is_greater_than_the_one_before(self):
        for numbers in ([], [5], [-2, 0, 7], [0, 1, 10 ** 60]):
            self.assertIs(rises(numbers), True)
        for numbers in ([0, 0], [1, 0], [0, 1, 1], [0, 2, 1, 3], [10 ** 60, 1]):
            self.assertIs(rises(numbers), False)

    def test_numbers_below_a_count(self):
        for numbers in ([], [0], [2], [0, 1, 2]):
            self.assertIs(rises_below(numbers, 3), True)
        for numbers in ([-1], [3], [0, 3], [-1, 0], [1, 0], [1, 1], [0, 10 ** 60], [-10 ** 60, 0]):
            self.assertIs(rises_below(numbers, 3), False)

    def test_a_number_stands_once_in_all_lists_together(self):
        for lists in ([], [[]], [[], []], [[1], [0, 2]]):
            self.assertIs(each_once(lists), True)
        for lists in ([[1, 1]], [[1], [1]], [[0, 1], [2], [3, 0]]):
            self.assertIs(each_once(lists), False)

    def test_lists_are_put_together_in_their_order(self):
        lists = [[2, 0], [], [1]]
        together = put_together(lists)
        self.assertEqual(together, [2, 0, 1])
        together.append(3)
        self.assertEqual(lists, [[2, 0], [], [1]])
        self.assertEqual(put_together([]), [])

    def test_amounts(self):
        for numbers in ([], [0], [10 ** 60], [3, 0, 10 ** 60, 3]):
            self.assertIs(are_amounts(numbers, len(numbers)), True)
            self.assertIs(are_amounts(numbers, len(numbers) + 1), False)
            self.assertIs(are_amounts(numbers + [1], len(numbers)), False)
            for wrong in (-1, 10 ** 60 + 1, -10 ** 99, 10 ** 99):
                self.assertIs(are_amounts([wrong] + numbers, len(numbers) + 1), False)
                self.assertIs(are_amounts(numbers + [wrong], len(numbers) + 1), False)

    def test_groups(self):
        for groups, fewest in (([], 1), ([[0]], 1), ([[0, 3], [1], [2]], 1), ([], 2), ([[0, 3], [1, 2]], 2)):
            self.assertIs(are_groups(groups, 4, fewest), True)
        for groups in ([[]], [[0], [3, 2]], [[0, 4]], [[-1, 0]], [[0], [0]], [[2], [0]], [[0, 1], [1, 2]]):
            self.assertIs(are_groups(groups, 4, 1), False)
        self.assertIs(are_groups([[0, 1], [2]], 4, 2), False)


class Checks(unittest.TestCase):
    def test_what_is_right_passes_and_nothing_is_told(self):
        for some in ([], [0], [0, 2]):
            self.assertIsNone(check_some(some, [(0, 1), (1, 2), (0, 2)]))
        for some in ([0], [3], [0, 1, 2, 3]):
            self.assertIsNone(check_some_quarters(some, 4))
        for number in (0, 3):
            self.assertIsNone(check_quarter(number, 4))
        for crews in (1, 60):
            self.assertIsNone(check_crews(crews))
        for wages, bridges in (([], []), ([0, 10 ** 60], [(0, 1), (0, 1)])):
            self.assertIsNone(check_wages(wages, bridges))
        for quarters in (2, 24):
            self.assertIsNone(check_not_alone(quarters))
        for quarters, bridges in ((1, []), (3, [(0, 1), (1, 2)]), (2, [(0, 1)])):
            self.assertIsNone(check_not_above(quarters, bridges, 3, 2))

    def test_what_is_wrong_is_refused(self):
        for refusal, check, handed in (
            (BadSome, check_some, ([2], [(0, 1), (1, 0)])), (BadSome, check_some, ([1, 0], [(0, 1), (1, 0)])),
            (BadSome, check_some, ([0], [])), (BadQuarters, check_some_quarters, ([], 4)),
            (BadQuarters, check_some_quarters, ([4], 4)), (BadQuarters, check_some_quarters, ([1, 0], 4)),
            (BadQuarters, check_quarter, (4, 4)), (BadQuarters, check_quarter, (-1, 4)),
            (BadWages, check_wages, ([], [(0, 1)])), (BadWages, check_wages, ([1], [])),
            (BadWages, check_wages, ([-1], [(0, 1)])), (BadWages, check_wages, ([10 ** 60 + 1], [(0, 1)])),
            (BadCount, check_crews, (0,)), (BadCount, check_crews, (61,)), (TooSmall, check_not_alone, (1,)),
            (TooLarge, check_not_above, (4, [], 3, 2)), (TooLarge, check_not_above, (2, [(0, 1)] * 3, 3, 2)),
        ):
            with self.subTest(check=check.__name__, handed=handed):
                with self.assertRaises(refusal):
                    check(*handed)


if __name__ == "__main__":
    unittest.main()
